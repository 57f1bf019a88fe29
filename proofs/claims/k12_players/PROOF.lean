import PyProof.Rows.All
import Wide.All
import OpenK.AllK
import Wide.FinOn
import HandS.ForMost
import HandS.ForExc
import HandS.TupAny
import HandS.Wide
import HandS.IsInst
import HandS.Defaults
import PySem.Challenge.RW_tellsnone_k12_players_that_do_not_fit
import HandS.ExcIs
import HandS.ExcOwn
import HandS.RaiseMore
import HandS.FStr
import HandS.Deep
import HandS.SlotsOwn
import HandS.OwnEq
import HandS.Gcd
import HandS.Zip
import HandS.SetBool
import HandS.SetKeys
import HandS.Walk
import HandS.TupMul
import KE.KStateDown
import Lean
import KE.KSuper
import HandS.Base
import HandS.Call
import HandS.Exc
import HandS.Words
import HandS.HeadHook1
import HandS.HeadHook2
import HandS.HeadHook3
import HandS.Head0
import HandS.Head1
import HandS.Head2
import HandS.Head3
import HandS.HeadEnd
import Wide.Once
set_option Elab.async false
set_option genInjectivity false
set_option genSizeOf false
set_option genSizeOfSpec false
set_option linter.all false
set_option maxRecDepth 100000
set_option maxHeartbeats 2000000
/-! Games as data: expressions, statements, blocks, games; how they stand in the heap. -/
namespace Gm
open PySem L2
/-! ### data that stands keeps standing -/
theorem same_new {H : Hp} {p : Addr} (h : H p = none) (o : HO) : Same H (upd H p o) := fun b u q => by rw [upd_ne (ne_of_none q h)]; exact q
theorem sqT_mono {K : PySem.W.Frag} {H H' : Hp} {a : Addr} {xs : List V} (e : Same H H') (h : SqT K H a xs) : SqT K H' a xs := by
  rcases h with (h | ⟨o, h⟩) | h
  · exact .inl (.inl (e _ _ h))
  · exact .inl (.inr ⟨o, e _ _ h⟩)
  · exact .inr h
mutual
theorem dp_mono {K : PySem.W.Frag} {H H' : Hp} (s : Same H H') : ∀ (d : PyData) (v : V), Dp K H v d → Dp K H' v d
  | .none, _, h => by cases h; exact .non
  | .bool b, _, h => by cases h; exact .bl b
  | .int i, _, h => by cases h; exact .int i
  | .str x, _, h => by cases h; exact .str x
  | .list ds, _, h => by
    cases h with
    | lst hs ha => exact .lst (s.seq hs) (dp_monoAll s ds _ ha)
  | .tuple ds, _, h => by
    cases h with
    | tup hs ha => exact .tup (sqT_mono s hs) (dp_monoAll s ds _ ha)
  | .dict _, _, h => by cases h
theorem dp_monoAll {K : PySem.W.Frag} {H H' : Hp} (s : Same H H') : ∀ (ds : List PyData) (vs : List V), DpAll K H vs ds → DpAll K H' vs ds
  | [], _, h => by cases h; exact .nil
  | d :: ds, _, h => by
    cases h with
    | cons h1 h2 => exact .cons (dp_mono s d _ h1) (dp_monoAll s ds _ h2)
end
section
variable {K : PySem.W.Frag} {H : Hp}
theorem DpAll.len : ∀ {vs : List V} {ds : List PyData}, DpAll K H vs ds → vs.length = ds.length
  | _, _, .nil => rfl
  | _, _, .cons _ t => congrArg Nat.succ (DpAll.len t)
theorem DpAll.app : ∀ {vs ws : List V} {ds es : List PyData}, DpAll K H vs ds → DpAll K H ws es → DpAll K H (vs ++ ws) (ds ++ es)
  | _, _, _, _, .nil, q => q
  | _, _, _, _, .cons h t, q => .cons h (DpAll.app t q)
theorem DpAll.get : ∀ {vs : List V} {ds : List PyData} {i : Nat} {d : PyData}, DpAll K H vs ds → ds[i]? = some d → ∃ v, vs[i]? = some v ∧ Dp K H v d
  | _, _, _, _, .nil, e => by simp at e
  | _, _, 0, _, .cons h _, e => by simp at e; subst e; exact ⟨_, rfl, h⟩
  | _, _, i + 1, _, .cons _ t, e => by
    obtain ⟨v, h1, h2⟩ := DpAll.get (i := i) t (by simpa using e)
    exact ⟨v, by simpa using h1, h2⟩
theorem dp_strs : ∀ xs : List Str, DpAll K H (xs.map V.str) (xs.map PyData.str)
  | [] => .nil
  | x :: xs => .cons (.str x) (dp_strs xs)
/-- a new tuple of data -/
theorem dp_tup {p : Addr} {vs : List V} {ds : List PyData} (hp : H p = none) (h : DpAll K H vs ds) : Dp K (upd H p (.tup vs)) (.ref p) (.tuple ds) := .tup (SqT.of upd_same) (dp_monoAll (same_new hp _) _ _ h)
end
/-! ### rules whose written part is named (within comprehensions) -/
section
variable {X : Cx}
theorem ixlK (K : PySem.W.Frag) (h : X.K = K) : IxR X (rIxL K) := by subst h; exact ix_list
theorem ixtK (K : PySem.W.Frag) (h : X.K = K) : IxR X (rIxT K) := by subst h; exact ix_tup
theorem lenK (K : PySem.W.Frag) (h : X.K = K) : CallR X (.builtin "len") (fun xs H Q => ∃ p ys, xs = [.ref p] ∧ (SqL K H p ys ∨ SqT K H p ys) ∧ Q (.int ys.length) H) := by subst h; exact call_len_seq
theorem inK (K : PySem.W.Frag) (h : X.K = K) : OpR X (compareOp .In) (rIn K false) := by subst h; exact op_in_seq
theorem eqDK (K : PySem.W.Frag) (h : X.K = K) (hu : X.A.units + 64 < cLine) : OpR X (compareOp .Eq) (rEqD K) := by subst h; exact op_eqD hu
theorem neDK (K : PySem.W.Frag) (h : X.K = K) (hu : X.A.units + 64 < cLine) : OpR X (compareOp .NotEq) (rNeD K) := by subst h; exact op_neD hu
theorem slLK (K : PySem.W.Frag) (h : X.K = K) : SlR X (rSlL K) := by subst h; exact sl_list
theorem slTK (K : PySem.W.Frag) (h : X.K = K) : SlR X (rSlA K) := by subst h; exact sl_tupA
end
/-! ### data without lists: it stands as long as the tuples stand -/
mutual
noncomputable def nol : PyData → Bool
  | .list _ => false
  | .dict _ => false
  | .tuple ds => nolAll ds
  | _ => true
noncomputable def nolAll : List PyData → Bool
  | [] => true
  | d :: ds => nol d && nolAll ds
end
theorem nolAll_app : ∀ (xs ys : List PyData), nolAll (xs ++ ys) = (nolAll xs && nolAll ys)
  | [], ys => by show nolAll ys = (nolAll [] && nolAll ys); unfold nolAll; rw [Bool.true_and]; all_goals rfl
  | x :: xs, ys => by show (nol x && nolAll (xs ++ ys)) = ((nol x && nolAll xs) && nolAll ys); rw [nolAll_app xs ys, Bool.and_assoc]
theorem nolAll_strs : ∀ xs : List Str, nolAll (xs.map PyData.str) = true
  | [] => rfl
  | x :: xs => by show (nol (.str x) && nolAll (xs.map PyData.str)) = true; rw [nolAll_strs xs]; rfl
/-- tuples and what is locked stand -/
noncomputable def Tups (H H' : Hp) : Prop := ∀ b o, H b = some o → ((∃ xs, o = .tup xs) ∨ ∃ ob u, o = .frz ob u) → H' b = some o
theorem Tups.of {H H' : Hp} (s : Same H H') : Tups H H' := fun b o e _ => s b o e
theorem Tups.refl (H : Hp) : Tups H H := fun _ _ e _ => e
theorem Tups.trans {H H1 H2 : Hp} (a : Tups H H1) (b : Tups H1 H2) : Tups H H2 := fun c o e k => b c o (a c o e k) k
theorem Tups.lst {H : Hp} {l : Addr} {xs : List V} {o : HO} (h : H l = some (.lst xs)) : Tups H (upd H l o) := fun b u e k => by
  rw [upd_ne]
  · exact e
  · intro z
    subst z
    rw [h] at e
    cases e
    rcases k with ⟨_, z⟩ | ⟨_, _, z⟩ <;> cases z
theorem sqT_tups {K : PySem.W.Frag} {H H' : Hp} {a : Addr} {xs : List V} (e : Tups H H') (h : SqT K H a xs) : SqT K H' a xs := by
  rcases h with (h | ⟨o, h⟩) | h
  · exact .inl (.inl (e _ _ h (.inl ⟨_, rfl⟩)))
  · exact .inl (.inr ⟨o, e _ _ h (.inr ⟨_, _, rfl⟩)⟩)
  · exact .inr h
mutual
theorem dp_tups {K : PySem.W.Frag} {H H' : Hp} (s : Tups H H') : ∀ (d : PyData) (v : V), nol d = true → Dp K H v d → Dp K H' v d
  | .none, _, _, h => by cases h; exact .non
  | .bool b, _, _, h => by cases h; exact .bl b
  | .int i, _, _, h => by cases h; exact .int i
  | .str x, _, _, h => by cases h; exact .str x
  | .list ds, _, n, h => by unfold nol at n; cases n
  | .tuple ds, _, n, h => by
    unfold nol at n
    cases h with
    | tup hs ha => exact .tup (sqT_tups s hs) (dp_tupsAll s ds _ n ha)
  | .dict _, _, _, h => by cases h
theorem dp_tupsAll {K : PySem.W.Frag} {H H' : Hp} (s : Tups H H') : ∀ (ds : List PyData) (vs : List V), nolAll ds = true → DpAll K H vs ds → DpAll K H' vs ds
  | [], _, _, h => by cases h; exact .nil
  | d :: ds, _, n, h => by
    unfold nolAll at n
    rw [Bool.and_eq_true] at n
    cases h with
    | cons h1 h2 => exact .cons (dp_tups s d _ n.1 h1) (dp_tupsAll s ds _ n.2 h2)
end
/-! ### expressions and statements -/
inductive Ex where
  | num (n : Int) | loc (x : Str) | var (x : Str) | has (t : Str) (e : Ex) | cell (t : Str) (e : Ex) | op (o : Str) (a b : Ex)
mutual
inductive Stm where
  | set (x : Str) (e : Ex) | lt (l : Str) (e : Ex) | draw (l : Str) (n : Int) | put (t : Str) (e f : Ex) | lot (l o : Str) (e : Ex) | ask (l p : Str) (e : Ex) | ite (e : Ex) (a b : Blk) | bad | after (a : Blk)
inductive Blk where
  | nil | cons (s : Stm) (r : Blk)
end
noncomputable def Ex.d : Ex → PyData
  | .num n => .tuple [.str "number", .int n]
  | .loc x => .tuple [.str "local", .str x]
  | .var x => .tuple [.str "variable", .str x]
  | .has t e => .tuple [.str "has", .str t, e.d]
  | .cell t e => .tuple [.str "cell", .str t, e.d]
  | .op o a b => .tuple [.str o, a.d, b.d]
mutual
noncomputable def Stm.d : Stm → PyData
  | .set x e => .tuple [.str "set", .str x, e.d]
  | .lt l e => .tuple [.str "let", .str l, e.d]
  | .draw l n => .tuple [.str "draw", .str l, .int n]
  | .put t e f => .tuple [.str "put", .str t, e.d, f.d]
  | .lot l o e => .tuple [.str "lot", .str l, .str o, e.d]
  | .ask l p e => .tuple [.str "ask", .str l, .str p, e.d]
  | .ite e a b => .tuple [.str "if", e.d, .tuple a.ds, .tuple b.ds]
  | .bad => .tuple [.str "bad"]
  | .after a => .tuple [.str "after", .tuple a.ds]
noncomputable def Blk.ds : Blk → List PyData
  | .nil => []
  | .cons s r => s.d :: r.ds
end
noncomputable def Blk.d (b : Blk) : PyData := .tuple b.ds
theorem Ex.nol : ∀ e : Ex, nol e.d = true
  | .num n => rfl
  | .loc x => rfl
  | .var x => rfl
  | .has t e => by show (Gm.nol (.str "has") && (Gm.nol (.str t) && (Gm.nol e.d && nolAll []))) = true; rw [Ex.nol e]; rfl
  | .cell t e => by show (Gm.nol (.str "cell") && (Gm.nol (.str t) && (Gm.nol e.d && nolAll []))) = true; rw [Ex.nol e]; rfl
  | .op o a b => by show (Gm.nol (.str o) && (Gm.nol a.d && (Gm.nol b.d && nolAll []))) = true; rw [Ex.nol a, Ex.nol b]; rfl
mutual
theorem Stm.nol : ∀ x : Stm, nol x.d = true
  | .set x e => by unfold Stm.d; show (Gm.nol (.str "set") && (Gm.nol (.str x) && (Gm.nol e.d && nolAll []))) = true; rw [Ex.nol e]; rfl
  | .lt x e => by unfold Stm.d; show (Gm.nol (.str "let") && (Gm.nol (.str x) && (Gm.nol e.d && nolAll []))) = true; rw [Ex.nol e]; rfl
  | .draw l n => by unfold Stm.d; rfl
  | .put t e f => by unfold Stm.d; show (Gm.nol (.str "put") && (Gm.nol (.str t) && (Gm.nol e.d && (Gm.nol f.d && nolAll [])))) = true; rw [Ex.nol e, Ex.nol f]; rfl
  | .lot l o e => by unfold Stm.d; show (Gm.nol (.str "lot") && (Gm.nol (.str l) && (Gm.nol (.str o) && (Gm.nol e.d && nolAll [])))) = true; rw [Ex.nol e]; rfl
  | .ask l p e => by unfold Stm.d; show (Gm.nol (.str "ask") && (Gm.nol (.str l) && (Gm.nol (.str p) && (Gm.nol e.d && nolAll [])))) = true; rw [Ex.nol e]; rfl
  | .ite e a b => by unfold Stm.d; show (Gm.nol (.str "if") && (Gm.nol e.d && (nolAll a.ds && (nolAll b.ds && nolAll [])))) = true; rw [Ex.nol e, Blk.nol a, Blk.nol b]; rfl
  | .bad => by unfold Stm.d; rfl
  | .after a => by unfold Stm.d; show (Gm.nol (.str "after") && (nolAll a.ds && nolAll [])) = true; rw [Blk.nol a]; rfl
theorem Blk.nol : ∀ b : Blk, nolAll b.ds = true
  | .nil => by unfold Blk.ds; rfl
  | .cons s r => by unfold Blk.ds; show (Gm.nol s.d && nolAll r.ds) = true; rw [Stm.nol s, Blk.nol r]; rfl
end
noncomputable def Blk.of : List Stm → Blk
  | [] => .nil
  | s :: r => .cons s (Blk.of r)
noncomputable def Blk.app : Blk → Blk → Blk
  | .nil, c => c
  | .cons s r, c => .cons s (r.app c)
theorem Blk.ds_app : ∀ (b c : Blk), (b.app c).ds = b.ds ++ c.ds
  | .nil, c => by rw [Blk.app, Blk.ds]; rfl
  | .cons s r, c => by rw [Blk.app, Blk.ds, Blk.ds, Blk.ds_app r c]; rfl
noncomputable def Ex.dep : Ex → Nat
  | .num _ => 1
  | .loc _ => 1
  | .var _ => 1
  | .has _ e => e.dep + 1
  | .cell _ e => e.dep + 1
  | .op _ a b => max a.dep b.dep + 1
/-! the depth of ifs and afters, 0 without -/
mutual
noncomputable def Stm.dep : Stm → Nat
  | .ite _ a b => max a.dep b.dep + 1
  | .after a => a.dep + 1
  | _ => 0
noncomputable def Blk.dep : Blk → Nat
  | .nil => 0
  | .cons s r => max s.dep r.dep
end
noncomputable def ops : List Str := ["+", "-", "*", "/", "mod", "<", "="]
/-- the names in scope -/
structure Sc where
  locs : List Str
  vars : List Str
  tabs : List Str
  lots : List Str
  asks : List Str
/-- an expression over the names of a scope, at most k deep -/
noncomputable def Ex.Ok (s : Sc) : Nat → Ex → Prop
  | 0, _ => False
  | _ + 1, .num n => 0 ≤ n ∧ n ≤ 65535
  | _ + 1, .loc x => x ∈ s.locs
  | _ + 1, .var x => x ∈ s.vars
  | k + 1, .has t e => t ∈ s.tabs ∧ e.Ok s k
  | k + 1, .cell t e => t ∈ s.tabs ∧ e.Ok s k
  | k + 1, .op o a b => o ∈ ops ∧ a.Ok s k ∧ b.Ok s k
theorem Ex.Ok.mono {s : Sc} : ∀ {k j : Nat} {e : Ex}, e.Ok s k → k ≤ j → e.Ok s j
  | 0, _, _, h, _ => h.elim
  | _ + 1, 0, _, _, hj => absurd hj (by omega)
  | _ + 1, _ + 1, .num _, h, _ => h
  | _ + 1, _ + 1, .loc _, h, _ => h
  | _ + 1, _ + 1, .var _, h, _ => h
  | k + 1, j + 1, .has _ _, h, hj => ⟨h.1, h.2.mono (by omega)⟩
  | k + 1, j + 1, .cell _ _, h, hj => ⟨h.1, h.2.mono (by omega)⟩
  | k + 1, j + 1, .op _ _ _, h, hj => ⟨h.1, h.2.1.mono (by omega), h.2.2.mono (by omega)⟩
/-! a statement over a scope: expressions at most k deep, ifs and afters at most d deep -/
mutual
noncomputable def Stm.Ok (s : Sc) (k : Nat) : Nat → Stm → Prop
  | _, .set x e => x ∈ s.vars ∧ e.Ok s k
  | _, .lt l e => l ∈ s.locs ∧ e.Ok s k
  | _, .draw l n => l ∈ s.locs ∧ 1 ≤ n ∧ n ≤ 64
  | _, .put t e f => t ∈ s.tabs ∧ e.Ok s k ∧ f.Ok s k
  | _, .lot l o e => l ∈ s.locs ∧ o ∈ s.lots ∧ e.Ok s k
  | _, .ask l p e => l ∈ s.locs ∧ p ∈ s.asks ∧ e.Ok s k
  | 0, .ite _ _ _ => False
  | d + 1, .ite e a b => e.Ok s k ∧ a.Ok s k d ∧ b.Ok s k d
  | _, .bad => True
  | 0, .after _ => False
  | d + 1, .after a => a.Ok s k d
noncomputable def Blk.Ok (s : Sc) (k : Nat) : Nat → Blk → Prop
  | _, .nil => True
  | d, .cons x r => x.Ok s k d ∧ r.Ok s k d
end
noncomputable def Blk.len : Blk → Nat
  | .nil => 0
  | .cons _ r => r.len + 1
theorem Blk.len_ds : ∀ b : Blk, b.ds.length = b.len
  | .nil => by rw [Blk.ds]; rfl
  | .cons s r => by rw [Blk.ds, Blk.len, List.length_cons, Blk.len_ds r]
theorem Blk.len_app : ∀ (b c : Blk), (b.app c).len = b.len + c.len
  | .nil, c => by rw [Blk.app, Blk.len, Nat.zero_add]
  | .cons s r, c => by rw [Blk.app, Blk.len, Blk.len, Blk.len_app r c]; omega
theorem Blk.ok_app {s : Sc} {k d : Nat} : ∀ {b c : Blk}, b.Ok s k d → c.Ok s k d → (b.app c).Ok s k d
  | .nil, c, _, h => by rw [Blk.app]; exact h
  | .cons x r, c, h1, h2 => by
    rw [Blk.app]
    unfold Blk.Ok at h1 ⊢
    exact ⟨h1.1, Blk.ok_app h1.2 h2⟩
/-! ### picks -/
theorem pick_mem {xs : List Str} {r : Int} (h : xs ≠ []) : ∃ x ∈ xs, atI (xs.map V.str) (r % (((xs.map V.str).length : Nat) : Int)) = some (.str x) := by
  have hl : 0 < xs.length := List.length_pos_iff.mpr h
  rw [List.length_map]
  have h0 := Int.emod_nonneg r (by omega : (xs.length : Int) ≠ 0)
  have h1 := Int.emod_lt_of_pos r (by omega : (0 : Int) < xs.length)
  have hk : (r % (xs.length : Int)).toNat < xs.length := by omega
  refine ⟨xs[(r % (xs.length : Int)).toNat], List.getElem_mem hk, ?_⟩
  exact at_of (j := (r % (xs.length : Int)).toNat) (by omega) (by rw [List.getElem?_map, List.getElem?_eq_getElem hk] <;> rfl)
theorem len_pos {xs : List Str} (h : xs ≠ []) : (0 : Int) < (((xs.map V.str).length : Nat) : Int) := by
  rw [List.length_map]
  have := List.length_pos_iff.mpr h
  omega
/-- an item of a written display, whatever the rest -/
theorem pick_disp {vs : List V} {r : Int} {n : Nat} (hn : vs.length = n) (h : 0 < n) : ∃ x ∈ vs, atI vs (r % (n : Int)) = some x := by
  subst hn
  have h0 := Int.emod_nonneg r (by omega : (vs.length : Int) ≠ 0)
  have h1 := Int.emod_lt_of_pos r (by omega : (0 : Int) < vs.length)
  have hk : (r % (vs.length : Int)).toNat < vs.length := by omega
  exact ⟨vs[(r % (vs.length : Int)).toNat], List.getElem_mem hk, at_of (j := (r % (vs.length : Int)).toNat) (by omega) (List.getElem?_eq_getElem hk)⟩
theorem pick_op {r : Int} : ∃ o ∈ ops, atI ([.str "+", .str "-", .str "*", .str "/", .str "mod", .str "<", .str "="] : List V) (r % 7) = some (.str o) := by
  obtain ⟨x, hx, e⟩ := pick_mem (xs := ops) (r := r) (by decide)
  exact ⟨x, hx, e⟩
theorem pick_two {a b : V} {r : Int} : atI ([a, b] : List V) (r % 2) = some a ∨ atI ([a, b] : List V) (r % 2) = some b := by
  have h0 := Int.emod_nonneg r (by decide : (2 : Int) ≠ 0)
  have h1 := Int.emod_lt_of_pos r (by decide : (0 : Int) < 2)
  have : r % 2 = 0 ∨ r % 2 = 1 := by omega
  rcases this with e | e
  · rw [e]; exact .inl rfl
  · rw [e]; exact .inr rfl
theorem and_if {c A B T1 : Prop} [Decidable c] (hB : B) (hT : c → B → T1) : if c then T1 else (if false = true then A else B) := by
  by_cases h : c
  · rw [if_pos h]; exact hT h hB
  · rw [if_neg h, if_neg Bool.false_ne_true]; exact hB
theorem ne_of_len {xs : List Str} (h : decide ((0 : Int) < (((xs.map V.str).length : Nat) : Int)) = true) : xs ≠ [] := by
  intro e
  subst e
  exact absurd (of_decide_eq_true h) (by decide)
/-- an if without an else: what holds behind it, both ways -/
theorem if_rest {b A : Prop} [Decidable b] {D : Ends} {σ : L2.St} {H : Hp} (I : L2.St → Hp → Prop) (rest : ∀ σ H, I σ H → D.nx σ H) (ht : b → (∀ σ H, I σ H → D.nx σ H) → A) (he : ¬ b → I σ H) : if b then A else tNext D σ H := by
  by_cases h : b
  · rw [if_pos h]; exact ht h rest
  · rw [if_neg h]; exact rest σ H (he h)
theorem Blk.ok_nil {s : Sc} {k d : Nat} : Blk.nil.Ok s k d := by unfold Blk.Ok; trivial
theorem Blk.ok_cons {s : Sc} {k d : Nat} {x : Stm} {r : Blk} (h : x.Ok s k d) (hr : r.Ok s k d) : (Blk.cons x r).Ok s k d := by unfold Blk.Ok; exact ⟨h, hr⟩
theorem Stm.ok_ite {s : Sc} {k d : Nat} {e : Ex} {a b : Blk} (h : e.Ok s k) (ha : a.Ok s k d) (hb : b.Ok s k d) : (Stm.ite e a b).Ok s k (d + 1) := by unfold Stm.Ok; exact ⟨h, ha, hb⟩
theorem Stm.ok_after {s : Sc} {k d : Nat} {a : Blk} (ha : a.Ok s k d) : (Stm.after a).Ok s k (d + 1) := by unfold Stm.Ok; exact ha
theorem Stm.ok_bad {s : Sc} {k d : Nat} : Stm.bad.Ok s k d := by cases d <;> (unfold Stm.Ok; trivial)
mutual
theorem Stm.ok_mono {s : Sc} {k : Nat} : ∀ {d e : Nat} {x : Stm}, x.Ok s k d → d ≤ e → x.Ok s k e
  | d, e, .set _ _, h, _ => by unfold Stm.Ok at h ⊢; exact h
  | d, e, .lt _ _, h, _ => by unfold Stm.Ok at h ⊢; exact h
  | d, e, .draw _ _, h, _ => by unfold Stm.Ok at h ⊢; exact h
  | d, e, .put _ _ _, h, _ => by unfold Stm.Ok at h ⊢; exact h
  | d, e, .lot _ _ _, h, _ => by unfold Stm.Ok at h ⊢; exact h
  | d, e, .ask _ _ _, h, _ => by unfold Stm.Ok at h ⊢; exact h
  | d, e, .bad, _, _ => Stm.ok_bad
  | 0, e, .ite _ _ _, h, _ => by unfold Stm.Ok at h; exact h.elim
  | d + 1, 0, .ite _ _ _, h, he => absurd he (by omega)
  | d + 1, e + 1, .ite _ _ _, h, he => by unfold Stm.Ok at h ⊢; exact ⟨h.1, Blk.ok_mono h.2.1 (by omega), Blk.ok_mono h.2.2 (by omega)⟩
  | 0, e, .after _, h, _ => by unfold Stm.Ok at h; exact h.elim
  | d + 1, 0, .after _, h, he => absurd he (by omega)
  | d + 1, e + 1, .after _, h, he => by unfold Stm.Ok at h ⊢; exact Blk.ok_mono h (by omega)
theorem Blk.ok_mono {s : Sc} {k : Nat} : ∀ {d e : Nat} {b : Blk}, b.Ok s k d → d ≤ e → b.Ok s k e
  | d, e, .nil, _, _ => Blk.ok_nil
  | d, e, .cons x r, h, he => by unfold Blk.Ok at h ⊢; exact ⟨Stm.ok_mono h.1 he, Blk.ok_mono h.2 he⟩
end
/-! ### a list of data that grows -/
structure Acc (K : PySem.W.Frag) (H0 H : Hp) (l : Addr) (vs : List V) (ds : List PyData) : Prop where
  s : Same H0 H
  f : H0 l = none
  l : H l = some (.lst vs)
  d : DpAll K H vs ds
  n : nolAll ds = true
section
variable {K : PySem.W.Frag} {H0 H H' : Hp} {l : Addr} {vs : List V} {ds : List PyData} {v : V} {d : PyData}
theorem Acc.start (h : H0 l = none) : Acc K H0 (upd H0 l (.lst [])) l [] [] := ⟨same_new h _, h, upd_same, .nil, rfl⟩
theorem Acc.grow (a : Acc K H0 H l vs ds) (e : Same H H') : Acc K H0 H' l vs ds := ⟨a.s.trans e, a.f, e _ _ a.l, dp_monoAll e _ _ a.d, a.n⟩
theorem Acc.add (a : Acc K H0 H l vs ds) (hd : Dp K H v d) (hn : nol d = true) : Acc K H0 (upd H l (.lst (vs ++ [v]))) l (vs ++ [v]) (ds ++ [d]) := by
  have tp : Tups H (upd H l (.lst (vs ++ [v]))) := Tups.lst a.l
  refine ⟨fun b o e => by rw [upd_ne (ne_of_none e a.f)]; exact a.s _ _ e, a.f, upd_same, DpAll.app (dp_tupsAll tp _ _ a.n a.d) (.cons (dp_tups tp _ _ hn hd) .nil), ?_⟩
  rw [nolAll_app, a.n]
  show (true && (nol d && nolAll [])) = true
  rw [hn]
  rfl
theorem Acc.len (a : Acc K H0 H l vs ds) : vs.length = ds.length := DpAll.len a.d
end
/-! ### a slice of a tuple, whichever it is -/
noncomputable def rSlB (K : PySem.W.Frag) : V → Option Int → Option Int → Hp → VK → Prop := fun x lo hi H Q => ∃ a xs, x = .ref a ∧ SqT K H a xs ∧ ∀ p H', Same H H' → SqT K H' p (cutV xs lo hi) → Q (.ref p) H'
theorem slTB {X : Cx} (K : PySem.W.Frag) (h : X.K = K) : SlR X (rSlB K) := by
  subst h
  intro pins s σ H x v vl vu lo hi sl Q I rx hs pl pu h
  obtain ⟨a, xs, rfl, hx, q⟩ := h
  refine sl_tupA pins s σ H _ v vl vu lo hi sl Q I rx hs pl pu ⟨a, xs, rfl, hx, fun w => q a H (Same.refl _) ?_, fun _ p hp => q p _ (same_new hp _) (SqT.of upd_same)⟩
  have e : cutV xs lo hi = xs := by
    unfold cutV
    rw [w.1, w.2, List.drop_zero, Nat.sub_zero, List.take_length]
  rw [e]
  exact hx
theorem cut3 {r : Int} (h0 : 0 ≤ r) (h1 : r < 2) : cutV [.str "g", .str "a", .str "b"] none (some (2 + r)) = ([("g" : Str), "a"]).map V.str ∨ cutV [.str "g", .str "a", .str "b"] none (some (2 + r)) = ([("g" : Str), "a", "b"]).map V.str := by
  have : r = 0 ∨ r = 1 := by omega
  rcases this with rfl | rfl
  · exact .inl rfl
  · exact .inr rfl
theorem take_more {α : Type} : ∀ {l : List α} {i : Nat} {x : α}, l[i]? = some x → l.take (i + 1) = l.take i ++ [x]
  | [], i, x, h => by simp at h
  | a :: l, 0, x, h => by
    have e : a = x := Option.some.inj h
    subst e
    rfl
  | a :: l, i + 1, x, h => by
    have ih := take_more (l := l) (i := i) (x := x) h
    show a :: l.take (i + 1) = a :: l.take i ++ [x]
    rw [ih]
    rfl
theorem str_at {xs : List Str} {i : Nat} (h : i < (((xs.map V.str).length : Nat) : Int).toNat) : ∃ x, xs[i]? = some x ∧ atI (xs.map V.str) (0 + (i : Int)) = some (.str x) := by
  rw [List.length_map] at h
  have hi : i < xs.length := by omega
  exact ⟨xs[i], List.getElem?_eq_getElem hi, at_of (j := i) (by omega) (by rw [List.getElem?_map, List.getElem?_eq_getElem hi] <;> rfl)⟩
/-! ### games -/
structure Pr where
  name : Str
  size : Int
  ans : Int
  locs : List Str
  block : Blk
  res : Ex
structure Ga where
  vars : List (Str × Int × Int)
  tabs : List (Str × Int × Int)
  lots : List (Str × Int × Int)
  procs : List Pr
noncomputable def trip (t : Str × Int × Int) : PyData := .tuple [.str t.1, .int t.2.1, .int t.2.2]
noncomputable def strD (xs : List Str) : PyData := .tuple (xs.map PyData.str)
noncomputable def Pr.d (p : Pr) : PyData := .tuple [.str p.name, .int p.size, .int p.ans, strD p.locs, p.block.d, p.res.d]
noncomputable def trips (ts : List (Str × Int × Int)) : PyData := .tuple (ts.map trip)
noncomputable def Ga.d (g : Ga) : PyData := .tuple [trips g.vars, trips g.tabs, trips g.lots, .tuple (g.procs.map Pr.d)]
theorem nol_trip (t : Str × Int × Int) : nol (trip t) = true := rfl
theorem nolAll_trips : ∀ ts : List (Str × Int × Int), nolAll (ts.map trip) = true
  | [] => rfl
  | t :: ts => by show (nol (trip t) && nolAll (ts.map trip)) = true; rw [nolAll_trips ts]; rfl
theorem Pr.nol (p : Pr) : nol p.d = true := by
  show (Gm.nol (.str p.name) && (Gm.nol (.int p.size) && (Gm.nol (.int p.ans) && (nolAll (p.locs.map PyData.str) && (nolAll p.block.ds && (Gm.nol p.res.d && nolAll [])))))) = true
  rw [nolAll_strs, Blk.nol, Ex.nol]
  rfl
theorem nolAll_procs : ∀ ps : List Pr, nolAll (ps.map Pr.d) = true
  | [] => rfl
  | p :: ps => by show (nol p.d && nolAll (ps.map Pr.d)) = true; rw [nolAll_procs ps, Pr.nol]; rfl
theorem Ga.nol (g : Ga) : nol g.d = true := by
  show (nolAll (g.vars.map trip) && (nolAll (g.tabs.map trip) && (nolAll (g.lots.map trip) && (nolAll (g.procs.map Pr.d) && nolAll [])))) = true
  rw [nolAll_trips, nolAll_trips, nolAll_trips, nolAll_procs]
  rfl
noncomputable def Ga.sc (g : Ga) (locs asks : List Str) : Sc := ⟨locs, g.vars.map (·.1), g.tabs.map (·.1), g.lots.map (·.1), asks⟩
/-! ### the games that the laws draw -/
structure PrOk (g : Ga) (p : Pr) : Prop where
  size : 1 ≤ p.size ∧ p.size ≤ 3
  ans : 2 ≤ p.ans ∧ p.ans ≤ 4
  locs : p.locs = (["g", "a"] : List Str) ∨ p.locs = (["g", "a", "b"] : List Str)
  block : p.block.Ok (g.sc p.locs []) 3 2
  len : 1 ≤ p.block.len ∧ p.block.len ≤ 4
  res : p.res.Ok (g.sc p.locs []) 3
structure GaOk (g : Ga) : Prop where
  vars : g.vars.map (·.1) = ([] : List Str) ∨ g.vars.map (·.1) = (["x"] : List Str) ∨ g.vars.map (·.1) = (["x", "y"] : List Str)
  var : ∀ v ∈ g.vars, (v.2.1 = 2 ∨ v.2.1 = 3 ∨ v.2.1 = 65535) ∧ (v.2.2 = 0 ∨ v.2.2 = 1)
  tabs : g.tabs.map (·.1) = ([] : List Str) ∨ g.tabs.map (·.1) = (["t"] : List Str) ∨ g.tabs.map (·.1) = (["t", "m"] : List Str)
  tab : ∀ v ∈ g.tabs, (v.2.1 = 2 ∨ v.2.1 = 3) ∧ (v.2.2 = 2 ∨ v.2.2 = 3)
  lots : g.lots.map (·.1) = ([] : List Str) ∨ g.lots.map (·.1) = (["o"] : List Str) ∨ g.lots.map (·.1) = (["o", "k"] : List Str)
  lot : ∀ v ∈ g.lots, (v.2.1 = 2 ∨ v.2.1 = 3) ∧ v.2.2 = 2
  procs : g.procs.map (·.name) = (["p"] : List Str) ∨ g.procs.map (·.name) = (["p", "r"] : List Str)
  proc : ∀ p ∈ g.procs, PrOk g p
/-! ### more picks -/
theorem dig_at {ds : List Int} {i : Int} (h0 : 0 ≤ i) (h1 : i < (ds.length : Int)) : ∃ d ∈ ds, atI (ds.map V.int) i = some (.int d) := by
  have hk : i.toNat < ds.length := by omega
  exact ⟨ds[i.toNat], List.getElem_mem hk, at_of (j := i.toNat) (by omega) (by rw [List.getElem?_map, List.getElem?_eq_getElem hk] <;> rfl)⟩
theorem cut2 {a b : Str} {j : Int} (h0 : 0 ≤ j) (h1 : j ≤ 2) : cutV ([V.str a, V.str b]) none (some j) = (([a, b] : List Str).take j.toNat).map V.str := by
  have : j = 0 ∨ j = 1 ∨ j = 2 := by omega
  rcases this with rfl | rfl | rfl <;> rfl
theorem take2 {a b : Str} (n : Nat) (h : n ≤ 2) : ([a, b] : List Str).take n = [] ∨ ([a, b] : List Str).take n = [a] ∨ ([a, b] : List Str).take n = [a, b] := by
  have : n = 0 ∨ n = 1 ∨ n = 2 := by omega
  rcases this with rfl | rfl | rfl
  · exact .inl rfl
  · exact .inr (.inl rfl)
  · exact .inr (.inr rfl)
end Gm
set_option Elab.async false
set_option linter.all false
set_option maxRecDepth 100000
set_option maxHeartbeats 2000000
/-! Rules of my own over the hand layer: operators, ==, str of own instances; a call that makes an instance within a try; isinstance of a held error with several classes. -/
namespace Mine
open PySem PySem.Spec PyProof.Rows L2
/-! ### isinstance of the error that a suite holds -/
noncomputable def rIsE1 (K : PySem.W.Frag) (D a : Addr) (cls : Value) (d : Option Addr) : List V → Hp → VK → Prop := fun xs H Q => ∃ (c : V) (cv : Value) (b : Bool), xs = [.ref a, c] ∧ cls = .ref D ∧ d = none ∧ (∀ u, RelV c u → u = cv) ∧ PySem.W.kitOne K (.ref D) cv = some b ∧ Q (.bl b) H
noncomputable def rIsET (K : PySem.W.Frag) (D a : Addr) (cls : Value) (d : Option Addr) : List V → Hp → VK → Prop := fun xs H Q => ∃ (tp : Addr) (cs : List V) (us : List Value) (b : Bool), xs = [.ref a, .ref tp] ∧ cls = .ref D ∧ d = none ∧ H tp = some (.tup cs) ∧ Paired ClsV cs us ∧ PySem.W.kitAny K (.ref D) us = some b ∧ Q (.bl b) H
section
variable {X : Cx} {a D : Addr} {oe : Obj} {pn : List (Addr × Obj)} {cls : Value} {d : Option Addr}
theorem call_isE1 (C : ExcC X.K D) (hz : Zc cls d oe) (hf : ∃ vs, oe.data = .fields vs) : CallR (X.suite a ((a, oe) :: pn)) (.builtin "isinstance") (rIsE1 X.K D a cls d) := by
  intro pins s σ H xs us Q I r h
  obtain ⟨c, cv, b, e1, rfl, rfl, hcv, e, q⟩ := h
  exact call_isE C hz hf pins s σ H xs us Q I r ⟨c, cv, b, e1, hcv, e, q⟩
theorem call_isET (C : ExcC X.K D) (hz : Zc cls d oe) (hf : ∃ vs, oe.data = .fields vs) : CallR (X.suite a ((a, oe) :: pn)) (.builtin "isinstance") (rIsET X.K D a cls d) := by
  intro pins s σ H xs us Q I r h
  obtain ⟨tp, cs, ws, b, rfl, rfl, rfl, hT, k, e, q⟩ := h
  obtain ⟨u1, u2, rfl, r1, r2⟩ := vals2 r
  cases (show u1 = Value.ref a from r1)
  cases (show u2 = Value.ref tp from r2)
  obtain ⟨hget, _⟩ := I.pin (a, oe) (List.mem_append.mpr (.inl List.mem_cons_self))
  obtain ⟨vs, hv⟩ := hf
  have J : PySem.W.InstAt s.heap a oe D none := by
    obtain ⟨oc, od, oda, osl⟩ := oe
    obtain ⟨h1, h2⟩ := hz
    dsimp only at h1 h2 hv
    subst h1 h2 hv
    exact ⟨hget, rfl, rfl, trivial⟩
  obtain ⟨_, its, rv, o, h1, h2, n, h3⟩ := (show ObjOk X.prog X.w H s.heap tp (.tup cs) from I.hok tp _ hT)
  have e3 := ClsV.all k rv
  subst e3
  obtain ⟨oc, od, dt, sl⟩ := o
  simp only at h2 h3
  subst h2 h3
  exact PySem.W.kia_tup (PySem.W.handS_kitx_exc C.hg C.hk C.hs C.hd C.ha C.hn C.ht C.hm) I.kIn J h1 e (fun z => nomatch z) fun tk => ⟨.bl b, H, I.kept (t' := tk) fun _ _ z => z, rfl, q⟩
end

/-! ### small words -/
theorem same_new {H : Hp} {p : Addr} (h : H p = none) (o : HO) : Same H (upd H p o) := fun b u q => by rw [upd_ne (ne_of_none q h)]; exact q
theorem same_make {H : Hp} {x dx C : Addr} (nx : H x = none) (nd : H dx = none) : Same H (upd (upd H dx (.own x)) x (.ins C dx [])) := fun b o e => by
  rw [upd_ne (ne_of_none e nx), upd_ne (ne_of_none e nd)]
  exact e
theorem ite_no {c A B : Prop} [Decidable c] (hc : ¬ c) (h : B) : if c then A else B := by rw [if_neg hc]; exact h
theorem ite_yes {c A B : Prop} [Decidable c] (hc : c) (h : A) : if c then A else B := by rw [if_pos hc]; exact h
end Mine
set_option Elab.async false
set_option linter.all false
/-! Walks whose written part is named: a list, a tuple, either. -/
namespace Mine
open PySem PySem.Calls L2 PyProof.Rows
section
variable {X : Cx} {tg l : Expr} {tl : TE}
theorem pi_listK (K : PySem.W.Frag) (h : X.K = K) (hl : PE X l tl) : PI X tg l (iList K tl) := by subst h; exact pi_list hl
theorem pi_tupK (K : PySem.W.Frag) (h : X.K = K) (hl : PE X l tl) : PI X tg l (iTup K tl) := by subst h; exact pi_tup hl
noncomputable def iSeq (K : PySem.W.Frag) (tl : TE) : TI := fun σ H R => iList K tl σ H R ∨ iTup K tl σ H R
theorem pi_seqK (K : PySem.W.Frag) (h : X.K = K) (hl : PE X l tl) : PI X tg l (iSeq K tl) := by
  refine ⟨fun pins s σ H Q I h => ?_⟩
  rcases h with h | h
  · exact (pi_listK K ‹_› hl).run pins s σ H Q I h
  · exact (pi_tupK K ‹_› hl).run pins s σ H Q I h
end
end Mine
set_option Elab.async false
set_option linter.all false
set_option maxRecDepth 100000
set_option maxHeartbeats 2000000
/-! Set comprehensions whose elements are of any kind that a set's own `add` has a rule for. -/
namespace Mine
open PySem PySem.Spec PyProof.Rows L2 PpSet
/-- what a fresh set is, and what one more element asks of the value and the heap -/
structure Kind (P : Program) (w : World) where
  o0 : Addr → HO
  add : V → Hp → Addr → (Hp → Prop) → Prop
  new : ∀ (H : Hp) (h : Heap), ObjOk P w H (h.push { cls := .type "set", dict := none, data := .set #[] 0 (.fresh 0 0 (!w.params.followText "set-order")) }) h.objs.size (o0 h.objs.size)
  put : ∀ (Y : Cx), Y.prog = P → Y.w = w → ∀ {pins : List (Addr × Obj)} {σ : L2.St} {H : Hp} {s : Shared} {E : Value → Shared → Prop} {Q : Value → Shared → Prop} {D : Addr} {y : V} {z : Value} {N : Hp → Prop},
    Inv Y pins σ H s → RelV y z → add y H D N → (∀ H' s', Inv Y pins σ H' s' → N H' → Q .none s') → wpAny (model P w) Y.A (call (.builtin "set.add") [.ref D, z]) Q E s
noncomputable def tScG {P : Program} {w : World} (κ : Kind P w) (wi : TI) (g : TG) (tt : TT) (te : TE) (vs : List Nat) : TE := fun σ H Q => wi σ H fun J H1 => ∀ D, H1 D = none →
  ∃ W : Nat → Nat → Hp → Prop, (∃ m, W 0 m (upd H1 D (κ.o0 D))) ∧ ∀ i m H, W i m H → (J.stop i H ∧ Q (.ref D) H) ∨
    (J.go i H ∧ ∃ N : Hp → Prop, (∀ H', N H' → ∃ m', m' < m ∧ W (i + 1) m' H') ∧ ∀ x H', J.yld i H x H' → g x (wipe σ vs) H' fun τ H2 => wipe τ vs = wipe σ vs ∧ tt τ H2 fun b H3 =>
      if b = true then te τ H3 fun y H4 => κ.add y H4 D N else N H3)
section
variable {X : Cx}
theorem pe_scG (κ : Kind X.prog X.w) {elt tg iter : Expr} {ifs : List Expr} {scope : Scope} {own : List (PySem.Str × Nat)} {pos : Pos} {wi : TI} {g : TG} {tt : TT} {te : TE} (hc : X.calm = true) (hN : X.N.Nodup) (hi : PI X tg iter wi) (ok : BlkOk X.N X.env.scope scope own)
    (hg : ∀ (s : Shared) (H : Hp) (C : Addr) (cl : List (PySem.Str × Addr)) (fp : List Addr), PG (X.blk s H scope (compEnvC scope cl C X.env) fp) tg g)
    (ht : ∀ (s : Shared) (H : Hp) (C : Addr) (cl : List (PySem.Str × Addr)) (fp : List Addr), PTs (X.blk s H scope (compEnvC scope cl C X.env) fp) ifs tt)
    (he : ∀ (s : Shared) (H : Hp) (C : Addr) (cl : List (PySem.Str × Addr)) (fp : List Addr), PE (X.blk s H scope (compEnvC scope cl C X.env) fp) elt te)
    (hs : ∀ x, foldedSetIterable iter X.env x = pure x := by intro _; rfl) : PE X (.SetComp elt [⟨tg, iter, ifs, 0⟩] scope pos) (tScG κ wi g tt te (own.map (·.2))) := by
  refine ⟨fun pins s σ H Q I h => ?_⟩
  have free_ok : ∀ y ∈ scope.names, y.2 = .free → ∃ c, X.env.cells.lookup y.1 = some c := fun y hy e => (ok.free y hy e).elim (fun k => I.ok.has _ (.inl k)) (fun k => I.ok.has _ (.inr k))
  rw [eval_SetComp]
  refine wpAny_comprehension_free (use := none) rfl hs (closure_ok free_ok) ok.kind (fun y hy e => by rw [ok.uniq y hy, e]) (thn (hi.run pins s σ H _ I h) fun xv s1 hx => thn hx fun itv s2 w2 => ?_)
  obtain ⟨it, fp, tn, J, H2, e0, I2, T, st2, f2, q⟩ := w2
  subst e0
  refine newSet_ok (newEnv_comp ?_)
  generalize eD' : s2.heap.objs.size = D
  have eD := eD'.symm
  obtain ⟨W, ⟨m0, w0⟩, turn⟩ := q D (I2.hok.fresh (Nat.le_of_eq eD.symm))
  generalize es3' : ({ s2 with heap := s2.heap.push { cls := .type "set", dict := none, data := .set #[] 0 (.fresh 0 0 (!X.w.params.followText "set-order")) } } : Shared) = s3
  have es3 := es3'.symm
  obtain ⟨H3, eH3⟩ : ∃ H3, H3 = upd H2 D (κ.o0 D) := ⟨_, rfl⟩
  rw [← eH3] at w0
  have I3 : Inv X pins σ H3 s3 := by
    rw [es3, eH3]
    refine I2.laid (t' := s2.toks) (fun b o e => Heap.get?_push_of_some _ e) (Nat.le_of_eq eD.symm) ?_
    rw [← eD']
    exact κ.new _ _
  have h3 : s3.heap = s2.heap.push { cls := .type "set", dict := none, data := .set #[] 0 (.fresh 0 0 (!X.w.params.followText "set-order")) } := by rw [es3]
  have f3 : ∀ b ∈ fp, FpOk X pins H3 b ∧ b < s3.heap.objs.size := fun b hb => by
    obtain ⟨o, e, _⟩ := T.obj _ _ st2 b hb
    have lt := Heap.lt_size e
    refine ⟨⟨?_, (f2 b hb).2⟩, by rw [h3, Heap.size_push]; exact Nat.lt_succ_of_lt lt⟩
    rw [eH3, upd_ne (by rw [← eD']; exact Nat.ne_of_lt lt)]
    exact (f2 b hb).1
  have st3 : tn 0 s3.heap := T.keep _ _ _ st2 fun b _ o e => by rw [h3]; exact Heap.get?_push_of_some _ e
  have I4 := block_start I3 ok hN f3
  obtain ⟨ce, ece⟩ : ∃ ce, ce = compEnvC scope (cellsFrom (s3.heap.objs.size + 1) scope.names (cloFrom X.env.cells scope.names [])) s3.heap.objs.size X.env := ⟨_, rfl⟩
  have pg := hg s3 H3 s3.heap.objs.size (cellsFrom (s3.heap.objs.size + 1) scope.names (cloFrom X.env.cells scope.names [])) fp
  have pt := ht s3 H3 s3.heap.objs.size (cellsFrom (s3.heap.objs.size + 1) scope.names (cloFrom X.env.cells scope.names [])) fp
  have pe := he s3 H3 s3.heap.objs.size (cellsFrom (s3.heap.objs.size + 1) scope.names (cloFrom X.env.cells scope.names [])) fp
  have cL : ce.locals = s3.heap.objs.size := by rw [ece]; rfl
  rw [← ece] at I4 pg pt pe
  show codeAny _ _ (.compStart (.SetComp elt [⟨tg, iter, ifs, 0⟩] scope pos) 0 (.ref it) (.ref D) (compEnvC scope (cellsFrom (s3.heap.objs.size + 1) scope.names (cloFrom X.env.cells scope.names [])) s3.heap.objs.size X.env)) (compPost (model X.prog X.w) X.A X.xe none _ (.ref D) s3.heap.objs.size) { s3 with heap := pushCells (s3.heap.push { cls := .type "dict", data := .dict #[] }) scope.names }
  rw [← ece]
  obtain ⟨s4, es4⟩ : ∃ s4 : Shared, s4 = { s3 with heap := pushCells (s3.heap.push { cls := .type "dict", data := .dict #[] }) scope.names } := ⟨_, rfl⟩
  rw [← es4] at I4 ⊢
  have st4 : tn 0 s4.heap := T.keep _ _ _ st3 fun b _ o e => by rw [es4]; exact pushCells_keeps _ _ _ _ (Heap.get?_push_of_some _ e)
  have stat : ∀ {τ : L2.St} {H' : Hp} {s' : Shared}, Inv (X.blk s3 H3 scope ce fp) [] τ H' s' → (∀ b ∈ fp, H' b = none) → ∀ b ∈ fp, FpOk (X.blk s3 H3 scope ce fp) [] H' b := fun {τ H' s'} I' hn b hb =>
    ⟨hn b hb, (I'.ok.exf b hb).1, I'.ok.exfs b hb, .inl hb, fun x c e => (I'.ok.exf b hb).2 x c e, fun p hp => absurd (show p ∈ ([] : List (Addr × Obj)) ++ [] from hp) (by simp)⟩
  have loop : codeAny (model X.prog X.w) X.A (.compLoop (.SetComp elt [⟨tg, iter, ifs, 0⟩] scope pos) 0 (.ref it) (.ref D) ce) (compPost (model X.prog X.w) X.A X.xe none (EP X pins σ Q) (.ref D) s3.heap.objs.size) s4 := by
    refine compLoopS_any (fun n s' => ∃ i H', Inv (X.blk s3 H3 scope ce fp) [] (wipe σ (own.map (·.2))) H' s' ∧ tn i s'.heap ∧ (∀ b ∈ fp, H' b = none) ∧ W i n H') ?_ m0 ⟨0, H3, I4, st4, fun b hb => (f3 b hb).1.1, w0⟩
    rintro n s5 ⟨i, H5, I5, st5, n5, w5⟩
    rcases turn i n H5 w5 with ⟨stop, qq⟩ | ⟨go, N, hN', step⟩
    · refine thnF (T.done (X.blk s3 H3 scope ce fp) rfl rfl rfl hc i [] s5 _ H5 (fun _ _ => False) I5 (stat I5 n5) st5 stop) fun r s6 ⟨er, I6⟩ => ?_
      subst er
      have I7 : Inv X pins σ H5 s6 := I3.call' (ch := fp) I6.os I6.base I6.hok I6.bare fun b hb => by
        obtain ⟨⟨_, x1, x2, x3, x4, x5⟩, _⟩ := f3 b hb
        exact ⟨x3, x1, x4, x5⟩
      have nC : H5 s3.heap.objs.size = none := cL ▸ I6.free
      obtain ⟨m, hn, _⟩ := I6.loc
      have hn : s6.heap.Ns ce.locals m := hn
      rw [cL] at hn
      obtain ⟨y0, y1, y2, y3, y4, y5⟩ := I3.fpOk (Nat.le_refl _) nC
      exact ⟨m, hn, fun h'' sb => ⟨.ref D, H5, I7.turned (t' := s6.toks) (fun b o hb e => (sb.2 b hb).trans e) y0 y1 y3 y4 y5, rfl, qq⟩⟩
    · refine thnF (T.item (X.blk s3 H3 scope ce fp) rfl rfl rfl hc i [] s5 _ H5 (fun _ _ => False) I5 (stat I5 n5) st5 go) fun r s6 ⟨u, er, h6⟩ => ?_
      subst er
      refine thnF h6 fun _ s7 ⟨x, H7, I7, r7, y7, st7, n7⟩ => ?_
      refine thnF (pg.run _ s7 _ H7 x u _ (I7.pinned (stat I7 n7) (T.obj _ _ st7)) r7 (step x H7 y7)) fun _ s8 ⟨τ, H8, I8, hw8, q8⟩ => ?_
      refine thnF (pt.run _ s8 τ H8 _ I8 q8) fun b s9 ⟨H9, I9, q9⟩ => ?_
      have close : ∀ {s' : Shared} {H' : Hp}, Inv (X.blk s3 H3 scope ce fp) ([] ++ pinsAt fp s7.heap) τ H' s' → N H' → ∃ m, m < n ∧ ∃ i H', Inv (X.blk s3 H3 scope ce fp) [] (wipe σ (own.map (·.2))) H' s' ∧ tn i s'.heap ∧ (∀ b ∈ fp, H' b = none) ∧ W i m H' := fun {s' H'} I' nx => by
        obtain ⟨m', lt, w'⟩ := hN' H' nx
        have held : ∀ b ∈ fp, ∀ o, s7.heap.get? b = some o → s'.heap.get? b = some o ∧ H' b = none := fun b hb o e =>
          let z := I'.pin (b, o) (List.mem_append_right _ (List.mem_append_right _ (mem_pinsAt hb e)))
          ⟨z.1, z.2.1⟩
        refine ⟨m', lt, i + 1, H', (I'.unpinned (pins := [])).weak (by rw [← hw8, wipe_length]) (fun j v e => (wipe_some (hw8 ▸ e)).1), T.keep _ _ _ st7 fun b hb o e => (held b hb o e).1, fun b hb => ?_, w'⟩
        obtain ⟨o, e, _⟩ := T.obj _ _ st7 b hb
        exact (held b hb o e).2
      cases b with
      | false =>
        rw [if_neg Bool.false_ne_true] at q9 ⊢
        exact close I9 q9
      | true =>
        rw [if_pos rfl] at q9 ⊢
        exact thnF (pe.run _ s9 τ H9 _ I9 q9) fun z s10 ⟨yv, H10, I10, r10, a10⟩ => κ.put (X.blk s3 H3 scope ce fp) rfl rfl I10 r10 a10 fun H' s' I11 nx => close I11 nx
  exact codeAny_compStart_set loop (T.self X.A 0 _ _ _ st4 loop)
end
section
variable {P : Program} {w : World}
/-- a fresh set of ints and texts at a -/
theorem set0 (h : Heap) : (h.push { cls := .type "set", dict := none, data := .set #[] 0 (.fresh 0 0 (!w.params.followText "set-order")) }).SetOf (mixKind P w) h.objs.size (fun _ => false) 0 :=
  ⟨_, #[], 0, _, Heap.get?_push_size _ rfl, ⟨rfl, rfl, rfl⟩, rfl, (fun e he => by simp at he), (fun k => by simp), (by decide), (by rfl), rfl⟩
/-- sets of ints and texts -/
noncomputable def keyKind (P : Program) (w : World) : Kind P w where
  o0 := fun a => SetK P w a (fun _ => false) 0
  add := fun y H D N => ∃ (k : Key) (S : Key → Bool) (n : Nat), y = kV k ∧ H D = some (SetK P w D S n) ∧ n + 1 < scanBound ∧ N (upd H D (SetK P w D (fun j => S j || decide (j = k)) (if S k = true then n else n + 1)))
  new := fun H h => setK_new (set0 h)
  put := by
    rintro Y rfl rfl pins σ H s E Q D y z N I r ⟨k, S, n, rfl, hD, room, nx⟩ go
    refine call_set_add (kV_is r) (key_scan r) (setK_get I hD) room fun h' sb new => go _ _ (I.write (e := D) (t' := s.toks + 1) (by rw [hD]; trivial) (.inl rfl) (fun b u hb hu => (sb.2 b hb).trans hu) ?_ (setK_new new)) nx
    obtain ⟨o, _, _, _, ho, _⟩ := new
    exact ⟨o, ho⟩
end
section
variable {X : Cx}
/-- len of such a set -/
theorem call_len_setK : CallR X (.builtin "len") (fun xs H Q => ∃ (a : Addr) (S : Key → Bool) (n : Nat), xs = [.ref a] ∧ H a = some (SetK X.prog X.w a S n) ∧ n < 1000000 ∧ Q (.int (n : Nat)) H) := by
  intro pins s σ H xs us Q I r h
  obtain ⟨a, S, n, rfl, ha, hn, q⟩ := h
  obtain ⟨u, rfl, ru⟩ := vals1 r
  cases ru
  obtain ⟨o, es, ep, t, ho, hx, hd, h1, h2, h3, h4, h5⟩ := setK_get I ha
  subst h5
  refine call_len_set ho hx hd h4 (by omega) ⟨.int (es.size : Nat), H, I.kept (t' := s.toks + 1 + 1) fun _ _ z => z, ⟨_, rfl⟩, q⟩
end
/-- a walk that fills such a set -/
theorem scg_it {P : Program} {w : World} {κ : Kind P w} {J : It} {n : Nat} {G : Hp → Prop} {Y : Nat → Hp → V → Hp → Prop} (wk : Walk J n G Y) {g : TG} {tt : TT} {te : TE} {vs : List Nat} {σ : L2.St} {H1 : Hp} {D : Addr} {R : Hp → Prop} (Pv : Nat → Hp → Prop)
    (h0 : Pv 0 (upd H1 D (κ.o0 D))) (hG : ∀ i H, i ≤ n → Pv i H → G H)
    (hs : ∀ i x H H', i < n → Pv i H → Y i H x H' → g x (wipe σ vs) H' fun τ H2 => wipe τ vs = wipe σ vs ∧ tt τ H2 fun b H3 => if b = true then te τ H3 fun y H4 => κ.add y H4 D (Pv (i + 1)) else Pv (i + 1) H3) (hd : ∀ H, Pv n H → R H) :
    ∃ W : Nat → Nat → Hp → Prop, (∃ m, W 0 m (upd H1 D (κ.o0 D))) ∧ ∀ i m H, W i m H → (J.stop i H ∧ R H) ∨
      (J.go i H ∧ ∃ N : Hp → Prop, (∀ H', N H' → ∃ m', m' < m ∧ W (i + 1) m' H') ∧ ∀ x H', J.yld i H x H' → g x (wipe σ vs) H' fun τ H2 => wipe τ vs = wipe σ vs ∧ tt τ H2 fun b H3 =>
        if b = true then te τ H3 fun y H4 => κ.add y H4 D N else N H3) := by
  refine ⟨fun i m H => m = n - i ∧ i ≤ n ∧ Pv i H, ⟨n, rfl, Nat.zero_le _, h0⟩, ?_⟩
  rintro i m H ⟨rfl, hi, p⟩
  rcases Nat.lt_or_eq_of_le hi with lt | rfl
  · exact .inr ⟨wk.goes i H lt (hG i H hi p), Pv (i + 1), fun H' p' => ⟨n - (i + 1), by omega, rfl, lt, p'⟩, fun x H' y => hs i x H H' lt p (wk.yields i H x H' lt (hG i H hi p) y)⟩
  · exact .inl ⟨wk.stops H (hG _ H hi p), hd H p⟩
end Mine
set_option Elab.async false
set_option linter.all false
set_option maxRecDepth 100000
set_option maxHeartbeats 4000000
/-! A tuple times a number, also 0 and 1. -/
namespace Mine
open PySem PySem.Spec PyProof.Rows L2
theorem tuple_mul_zero (l : Addr) (items : Array Value) (n : Nat) (dd : Option Addr) (sl : Array (Option Value)) (u : Tok) (c1 : (items.isEmpty || (0 : Int) == 1) = false) :
    Meets (Builtin.«tuple.__mul__» ⟨[.ref l, .int 0 u], []⟩) (fun _ R s => s.heap.get? l = some { cls := .type "tuple", dict := dd, data := .seq items n, slots := sl } ∧
      R (.ok (.ret (Value.ref s.heap.objs.size))) { s with heap := s.heap.push { cls := Value.type "tuple", data := Data.seq #[] }, toks := s.toks }) :=
  .of_wp fun prog w A R s h => by
    obtain ⟨hp, g, d, tk, os⟩ := s
    obtain ⟨hl, h⟩ := h
    have f1 := AutoSeq1.idx_int
    wp_walk using wpAny_loadPart' hl
    repeat (first
      | (refine wpAny_ite_false (by decide) ?_; wp_walk using wpAny_loadPart' hl)
      | (refine wpAny_ite_false (decide_eq_false (by rw [c1]; exact Bool.false_ne_true)) ?_; wp_walk using wpAny_loadPart' hl))
    exact ⟨_, rfl, h⟩
theorem tuple_mul_one (l : Addr) (items : Array Value) (n : Nat) (dd : Option Addr) (sl : Array (Option Value)) (u : Tok) :
    Meets (Builtin.«tuple.__mul__» ⟨[.ref l, .int 1 u], []⟩) (fun _ R s => s.heap.get? l = some { cls := .type "tuple", dict := dd, data := .seq items n, slots := sl } ∧
      R (.ok (.ret (Value.ref l))) s) :=
  .of_wp fun prog w A R s h => by
    obtain ⟨hp, g, d, tk, os⟩ := s
    obtain ⟨hl, h⟩ := h
    have f1 := AutoSeq1.idx_int
    have c1 : (items.isEmpty || (1 : Int) == 1) = true := by rw [Bool.or_eq_true]; exact .inr rfl
    wp_walk using wpAny_loadPart' hl
    repeat (first
      | (refine wpAny_ite_false (by decide) ?_; wp_walk using wpAny_loadPart' hl)
      | (refine wpAny_ite_true (decide_eq_true c1) ?_; wp_walk using wpAny_loadPart' hl))
    exact ⟨_, rfl, h⟩
noncomputable def rRepA (K : PySem.W.Frag) : R2 := fun x y H Q => ∃ l k xs, x = .ref l ∧ y = .int k ∧ SqT K H l xs ∧ xs ≠ [] ∧ 0 ≤ k ∧ k ≤ 1000 ∧ xs.length ≤ 1000 ∧ ∀ p H', Same H H' → SqT K H' p (List.replicate k.toNat xs).flatten → Q (.ref p) H'
theorem op_repA {X : Cx} : OpR X (binaryOp .Mult) (rRepA X.K) := by
  intro pins s σ H x y v u Q I rx ry h
  obtain ⟨l, k, xs, rfl, rfl, hT, hne, h0, h2, hz, q⟩ := h
  by_cases h1 : 2 ≤ k
  · refine op_repT pins s σ H _ _ v u Q I rx ry ⟨l, k, xs, rfl, rfl, hT, hne, h1, h2, hz, fun p hp => q p _ (Gm.same_new hp _) (SqT.of upd_same)⟩
  cases rx
  obtain ⟨t, rfl⟩ := ry
  obtain ⟨its, r, ⟨⟨cls, dd, data, sl⟩, ho, hc, n, hd⟩, hs⟩ := I.tuple hT
  simp only at hc hd
  subst hc hd
  have hn : its ≠ [] := fun e => hne (by
    subst e
    cases r
    rfl)
  have c1 : (its.toArray.isEmpty || (0 : Int) == 1) = false := by
    cases its with
    | nil => exact absurd rfl hn
    | cons a b => rfl
  have k01 : k = 0 ∨ k = 1 := by omega
  rcases k01 with rfl | rfl
  · refine wpAny_binaryOp_repeat_ref (T := "tuple") (U := "int") (by decide) ⟨_, ho, rfl⟩ (fun s' => typeIs_int s' 0 t) noFill_tuple_mul F.fills_int_mul F.slot_int_rmul repeat_tuple F.slot_int_index.lookup
      (call_meets F.slot_int_rmul (typeIs_int s 0 t) F.entry_int_rmul (F.args_int_rmul_2 _ _) (int_rmul_tuple 0 t l its.toArray n dd sl)
        ⟨ho, rfl, ⟨_, ho, rfl⟩, call_meets F.slot_tuple_mul ⟨_, ho, rfl⟩ F.entry_tuple_mul (F.args_tuple_mul_2 _ _) (tuple_mul_zero l its.toArray n dd sl t c1) ⟨ho, ?_⟩⟩)
    have fr := I.hok.fresh (Nat.le_refl _)
    refine ⟨.ref s.heap.objs.size, _, I.laid (t' := s.toks) (o := .tup []) (fun b ob q => Heap.get?_push_of_some _ q) (Nat.le_refl _) ?_, rfl, q _ _ (Gm.same_new fr _) (SqT.of upd_same)⟩
    exact ⟨by decide, [], .nil, IsTup.new _ _⟩
  · refine wpAny_binaryOp_repeat_ref (T := "tuple") (U := "int") (by decide) ⟨_, ho, rfl⟩ (fun s' => typeIs_int s' 1 t) noFill_tuple_mul F.fills_int_mul F.slot_int_rmul repeat_tuple F.slot_int_index.lookup
      (call_meets F.slot_int_rmul (typeIs_int s 1 t) F.entry_int_rmul (F.args_int_rmul_2 _ _) (int_rmul_tuple 1 t l its.toArray n dd sl)
        ⟨ho, rfl, ⟨_, ho, rfl⟩, call_meets F.slot_tuple_mul ⟨_, ho, rfl⟩ F.entry_tuple_mul (F.args_tuple_mul_2 _ _) (tuple_mul_one l its.toArray n dd sl t) ⟨ho, ?_⟩⟩)
    refine ⟨.ref l, H, I, rfl, q _ _ (Same.refl _) ?_⟩
    show SqT X.K H l (xs ++ [])
    rw [List.append_nil]
    exact hT
end Mine
set_option Elab.async false
set_option genInjectivity false
set_option genSizeOf false
set_option genSizeOfSpec false
set_option linter.all false
/-! Players as data, and which of them fit. -/
namespace Gm
open PySem
inductive Pl where
  | say (b : Bool)
  | ask (p : Str) (n : Int) (parts : List (Int × Pl))
  | toss (ps : List Pl)
mutual
noncomputable def Pl.d : Pl → PyData
  | .say b => .tuple [.str "say", .bool b]
  | .ask p n parts => .tuple [.str "ask", .str p, .int n, .tuple (Pl.ds2 parts)]
  | .toss ps => .tuple [.str "toss", .tuple (Pl.ds ps)]
noncomputable def Pl.ds : List Pl → List PyData
  | [] => []
  | p :: r => p.d :: Pl.ds r
noncomputable def Pl.ds2 : List (Int × Pl) → List PyData
  | [] => []
  | (a, p) :: r => .tuple [.int a, p.d] :: Pl.ds2 r
end
noncomputable def partD (q : Int × Pl) : PyData := .tuple [.int q.1, q.2.d]
theorem Pl.ds_map : ∀ ps : List Pl, Pl.ds ps = ps.map Pl.d
  | [] => rfl
  | p :: r => by unfold Pl.ds; rw [Pl.ds_map r]; rfl
theorem Pl.ds2_map : ∀ ps : List (Int × Pl), Pl.ds2 ps = ps.map partD
  | [] => rfl
  | (a, p) :: r => by unfold Pl.ds2; rw [Pl.ds2_map r]; rfl
theorem Pl.d_ask (p : Str) (n : Int) (parts : List (Int × Pl)) : (Pl.ask p n parts).d = .tuple [.str "ask", .str p, .int n, .tuple (parts.map partD)] := by unfold Pl.d; rw [Pl.ds2_map]
theorem Pl.d_toss (ps : List Pl) : (Pl.toss ps).d = .tuple [.str "toss", .tuple (ps.map Pl.d)] := by unfold Pl.d; rw [Pl.ds_map]
theorem Pl.d_say (b : Bool) : (Pl.say b).d = .tuple [.str "say", .bool b] := by unfold Pl.d; rfl
/-- the players as which one can go on -/
noncomputable def Pl.kids : Pl → List Pl
  | .say _ => []
  | .ask _ _ parts => parts.map (·.2)
  | .toss ps => ps
/-- whether a player fits, in front of which k more calls and tosses may stand -/
noncomputable def chk (names : List Str) : Nat → Pl → Bool
  | _, .say _ => true
  | 0, .ask _ _ _ => false
  | 0, .toss _ => false
  | k + 1, .ask p n parts => decide (p ∈ names) && (decide (0 ≤ n) && (decide ((parts.map (·.1)).Nodup) && parts.all fun q => chk names k q.2))
  | k + 1, .toss ps => decide (1 ≤ ps.length ∧ ps.length ≤ 16) && ps.all (chk names k)
theorem chk_say (names : List Str) (k : Nat) (b : Bool) : chk names k (.say b) = true := by unfold chk; cases k <;> rfl
/-- what a player asks for at its head -/
noncomputable def headOk (names : List Str) : Pl → Bool
  | .say _ => true
  | .ask p n parts => decide (p ∈ names) && (decide (0 ≤ n) && decide ((parts.map (·.1)).Nodup))
  | .toss ps => decide (1 ≤ ps.length ∧ ps.length ≤ 16)
theorem chk_succ (names : List Str) (k : Nat) (p : Pl) : chk names (k + 1) p = (headOk names p && p.kids.all (chk names k)) := by
  cases p with
  | say b => rw [chk_say]; rfl
  | ask q n parts =>
    show (decide (q ∈ names) && (decide (0 ≤ n) && (decide ((parts.map (·.1)).Nodup) && parts.all fun q => chk names k q.2))) = ((decide (q ∈ names) && (decide (0 ≤ n) && decide ((parts.map (·.1)).Nodup))) && (parts.map (·.2)).all (chk names k))
    rw [List.all_map, Bool.and_assoc, Bool.and_assoc]
    rfl
  | toss ps => rfl
theorem all_same {α : Type} {f : α → Bool} {l m : List α} (h : ∀ x, x ∈ l ↔ x ∈ m) : l.all f = m.all f := by
  refine Bool.eq_iff_iff.mpr ?_
  rw [List.all_eq_true, List.all_eq_true]
  exact ⟨fun z x hx => z x ((h x).mpr hx), fun z x hx => z x ((h x).mp hx)⟩
/-! ### data of players -/
mutual
theorem Pl.nol : ∀ p : Pl, nol p.d = true
  | .say b => by unfold Pl.d; rfl
  | .ask p n parts => by
    unfold Pl.d
    show (Gm.nol (.str "ask") && (Gm.nol (.str p) && (Gm.nol (.int n) && (nolAll (Pl.ds2 parts) && nolAll [])))) = true
    rw [Pl.nol2 parts]; rfl
  | .toss ps => by
    unfold Pl.d
    show (Gm.nol (.str "toss") && (nolAll (Pl.ds ps) && nolAll [])) = true
    rw [Pl.nols ps]; rfl
theorem Pl.nols : ∀ ps : List Pl, nolAll (Pl.ds ps) = true
  | [] => by unfold Pl.ds; rfl
  | p :: r => by
    unfold Pl.ds
    show (Gm.nol p.d && nolAll (Pl.ds r)) = true
    rw [Pl.nol p, Pl.nols r]; rfl
theorem Pl.nol2 : ∀ ps : List (Int × Pl), nolAll (Pl.ds2 ps) = true
  | [] => by unfold Pl.ds2; rfl
  | (a, p) :: r => by
    unfold Pl.ds2
    show ((Gm.nol (.int a) && (Gm.nol p.d && nolAll [])) && nolAll (Pl.ds2 r)) = true
    rw [Pl.nol p, Pl.nol2 r]; rfl
end
theorem partD_nol (q : Int × Pl) : nol (partD q) = true := by
  show (Gm.nol (.int q.1) && (Gm.nol q.2.d && nolAll [])) = true
  rw [Pl.nol]; rfl
/-! equal data, equal players -/
mutual
theorem Pl.inj : ∀ p q : Pl, PyData.eqv p.d q.d = true → p = q
  | .say b, q, h => by
    cases q with
    | say c => simp [Pl.d, PyData.eqv, PyData.eqvAll] at h; rw [h]
    | ask _ _ _ => simp [Pl.d, PyData.eqv, PyData.eqvAll] at h
    | toss _ => simp [Pl.d, PyData.eqv, PyData.eqvAll] at h
  | .ask p n parts, q, h => by
    cases q with
    | say c => simp [Pl.d, PyData.eqv, PyData.eqvAll] at h
    | ask p' n' parts' =>
      simp only [Pl.d, PyData.eqv, PyData.eqvAll, Bool.and_true, Bool.and_eq_true, beq_iff_eq] at h
      obtain ⟨_, rfl, rfl, h⟩ := h
      rw [Pl.inj2 parts parts' h]
    | toss _ => simp [Pl.d, PyData.eqv, PyData.eqvAll] at h
  | .toss ps, q, h => by
    cases q with
    | say c => simp [Pl.d, PyData.eqv, PyData.eqvAll] at h
    | ask _ _ _ => simp [Pl.d, PyData.eqv, PyData.eqvAll] at h
    | toss ps' =>
      simp only [Pl.d, PyData.eqv, PyData.eqvAll, Bool.and_true, Bool.and_eq_true, beq_iff_eq] at h
      rw [Pl.injs ps ps' h.2]
theorem Pl.injs : ∀ ps qs : List Pl, PyData.eqvAll (Pl.ds ps) (Pl.ds qs) = true → ps = qs
  | [], [], _ => rfl
  | [], q :: r, h => by simp [Pl.ds, PyData.eqvAll] at h
  | p :: r, [], h => by simp [Pl.ds, PyData.eqvAll] at h
  | p :: r, q :: r', h => by
    simp only [Pl.ds, PyData.eqvAll, Bool.and_eq_true] at h
    rw [Pl.inj p q h.1, Pl.injs r r' h.2]
theorem Pl.inj2 : ∀ ps qs : List (Int × Pl), PyData.eqvAll (Pl.ds2 ps) (Pl.ds2 qs) = true → ps = qs
  | [], [], _ => rfl
  | [], (b, q) :: r, h => by simp [Pl.ds2, PyData.eqvAll] at h
  | (a, p) :: r, [], h => by simp [Pl.ds2, PyData.eqvAll] at h
  | (a, p) :: r, (b, q) :: r', h => by
    simp only [Pl.ds2, PyData.eqvAll, PyData.eqv, Bool.and_eq_true, Bool.and_true, beq_iff_eq] at h
    rw [h.1.1, Pl.inj p q h.1.2, Pl.inj2 r r' h.2]
end
mutual
theorem Pl.refl : ∀ p : Pl, PyData.eqv p.d p.d = true
  | .say b => by simp [Pl.d, PyData.eqv, PyData.eqvAll]
  | .ask p n parts => by simp [Pl.d, PyData.eqv, PyData.eqvAll, Pl.refl2 parts]
  | .toss ps => by simp [Pl.d, PyData.eqv, PyData.eqvAll, Pl.refls ps]
theorem Pl.refls : ∀ ps : List Pl, PyData.eqvAll (Pl.ds ps) (Pl.ds ps) = true
  | [] => by simp [Pl.ds, PyData.eqvAll]
  | p :: r => by simp [Pl.ds, PyData.eqvAll, Pl.refl p, Pl.refls r]
theorem Pl.refl2 : ∀ ps : List (Int × Pl), PyData.eqvAll (Pl.ds2 ps) (Pl.ds2 ps) = true
  | [] => by simp [Pl.ds2, PyData.eqvAll]
  | (a, p) :: r => by simp [Pl.ds2, PyData.eqvAll, PyData.eqv, Pl.refl p, Pl.refl2 r]
end
theorem mem_any {p : Pl} {ps : List Pl} : ((ps.map Pl.d).any fun z => PyData.eqv z p.d) = true ↔ p ∈ ps := by
  rw [List.any_eq_true]
  constructor
  · rintro ⟨d, hd, e⟩
    obtain ⟨q, hq, rfl⟩ := List.mem_map.mp hd
    rw [← Pl.inj q p e]
    exact hq
  · intro h
    exact ⟨p.d, List.mem_map.mpr ⟨p, h, rfl⟩, Pl.refl p⟩
/-! how deep the data are -/
noncomputable def Pl.Lay (k : Nat) (p : Pl) : Prop := PyData.canLay0 p.d = true ∧ PyData.depth p.d ≤ k
theorem layAll {k : Nat} : ∀ {ds : List PyData}, (∀ d ∈ ds, PyData.canLay0 d = true ∧ PyData.depth d ≤ k) → PyData.canLayAll0 ds = true ∧ PyData.depthAll ds ≤ k
  | [], _ => ⟨rfl, Nat.zero_le _⟩
  | d :: r, h => by
    obtain ⟨h1, h2⟩ := h d (List.mem_cons_self ..)
    obtain ⟨h3, h4⟩ := layAll (ds := r) fun x hx => h x (List.mem_cons_of_mem _ hx)
    refine ⟨?_, ?_⟩
    · show (PyData.canLay0 d && PyData.canLayAll0 r) = true
      rw [h1, h3]; rfl
    · show max (PyData.depth d) (PyData.depthAll r) ≤ k
      omega
theorem layAll_of {k : Nat} : ∀ {ds : List PyData}, PyData.canLayAll0 ds = true → PyData.depthAll ds ≤ k → ∀ d ∈ ds, PyData.canLay0 d = true ∧ PyData.depth d ≤ k
  | [], _, _, d, hd => nomatch hd
  | e :: r, h1, h2, d, hd => by
    have h1' : (PyData.canLay0 e && PyData.canLayAll0 r) = true := h1
    have h2' : max (PyData.depth e) (PyData.depthAll r) ≤ k := h2
    rw [Bool.and_eq_true] at h1'
    rcases List.mem_cons.mp hd with e1 | e1
    · subst e1; exact ⟨h1'.1, by omega⟩
    · exact layAll_of h1'.2 (by omega) d e1
theorem Pl.Lay.mono {j k : Nat} {p : Pl} (h : p.Lay j) (e : j ≤ k) : p.Lay k := ⟨h.1, Nat.le_trans h.2 e⟩
theorem lay_say (b : Bool) : (Pl.say b).Lay 1 := by unfold Pl.Lay Pl.d; exact ⟨by decide +kernel +revert, by decide +kernel +revert⟩
theorem lay_toss {k : Nat} {ps : List Pl} (h : ∀ q ∈ ps, q.Lay k) : (Pl.toss ps).Lay (k + 2) := by
  obtain ⟨h1, h2⟩ := layAll (k := k) (ds := ps.map Pl.d) fun d hd => by
    obtain ⟨q, hq, rfl⟩ := List.mem_map.mp hd
    exact h q hq
  unfold Pl.Lay
  rw [Pl.d_toss]
  refine ⟨?_, ?_⟩
  · show (PyData.canLay0 (.str "toss") && (PyData.canLayAll0 (ps.map Pl.d) && true)) = true
    rw [h1]; decide +kernel
  · show max 0 (max (PyData.depthAll (ps.map Pl.d) + 1) 0) + 1 ≤ k + 2
    omega
theorem lay_ask {k : Nat} {p : Str} {n : Int} {parts : List (Int × Pl)} (hp : PyData.canLay0 (.str p) = true) (h : ∀ q ∈ parts, q.2.Lay k) : (Pl.ask p n parts).Lay (k + 3) := by
  obtain ⟨h1, h2⟩ := layAll (k := k + 1) (ds := parts.map partD) fun d hd => by
    obtain ⟨q, hq, rfl⟩ := List.mem_map.mp hd
    obtain ⟨x, y⟩ := h q hq
    refine ⟨?_, ?_⟩
    · show (true && (PyData.canLay0 q.2.d && true)) = true
      rw [x]; rfl
    · show max 0 (max (PyData.depth q.2.d) 0) + 1 ≤ k + 1
      omega
  unfold Pl.Lay
  rw [Pl.d_ask]
  refine ⟨?_, ?_⟩
  · show (PyData.canLay0 (.str "ask") && (PyData.canLay0 (.str p) && (true && (PyData.canLayAll0 (parts.map partD) && true)))) = true
    rw [hp, h1]; decide +kernel
  · show max 0 (max 0 (max 0 (max (PyData.depthAll (parts.map partD) + 1) 0))) + 1 ≤ k + 3
    omega
theorem lay_kids {k : Nat} {p : Pl} (h : p.Lay k) : ∀ q ∈ p.kids, q.Lay k := by
  intro q hq
  cases p with
  | say b => exact nomatch hq
  | ask s n parts =>
    unfold Pl.Lay at h
    rw [Pl.d_ask] at h
    obtain ⟨h1, h2⟩ := h
    have h1' : (PyData.canLay0 (.str "ask") && (PyData.canLay0 (.str s) && (true && (PyData.canLayAll0 (parts.map partD) && true)))) = true := h1
    have h2' : max 0 (max 0 (max 0 (max (PyData.depthAll (parts.map partD) + 1) 0))) + 1 ≤ k := h2
    simp only [Bool.and_eq_true] at h1'
    obtain ⟨⟨a, b⟩, hab, rfl⟩ := List.mem_map.mp hq
    obtain ⟨x, y⟩ := layAll_of (k := k) h1'.2.2.2.1 (by omega) _ (List.mem_map.mpr ⟨_, hab, rfl⟩)
    have x' : (true && (PyData.canLay0 b.d && true)) = true := x
    have y' : max 0 (max (PyData.depth b.d) 0) + 1 ≤ k := y
    simp only [Bool.and_eq_true] at x'
    exact ⟨x'.2.1, by show PyData.depth b.d ≤ k; omega⟩
  | toss ps =>
    unfold Pl.Lay at h
    rw [Pl.d_toss] at h
    obtain ⟨h1, h2⟩ := h
    have h1' : (PyData.canLay0 (.str "toss") && (PyData.canLayAll0 (ps.map Pl.d) && true)) = true := h1
    have h2' : max 0 (max (PyData.depthAll (ps.map Pl.d) + 1) 0) + 1 ≤ k := h2
    simp only [Bool.and_eq_true] at h1'
    exact layAll_of (k := k) h1'.2.1 (by omega) _ (List.mem_map.mpr ⟨q, hq, rfl⟩)
theorem lay_shaped {p : Pl} (h : p.Lay 60) : SeqAt.shaped p.d = true := by
  show (PyData.canLay0 p.d && decide (PyData.depth p.d ≤ 64)) = true
  rw [h.1, decide_eq_true (Nat.le_trans h.2 (by decide))]; rfl
theorem lays_shaped {ps : List Pl} (h : ∀ q ∈ ps, q.Lay 60) : SeqAt.shaped (.list (ps.map Pl.d)) = true := by
  obtain ⟨h1, h2⟩ := layAll (k := 60) (ds := ps.map Pl.d) fun d hd => by
    obtain ⟨q, hq, rfl⟩ := List.mem_map.mp hd
    exact h q hq
  show (PyData.canLayAll0 (ps.map Pl.d) && decide (PyData.depthAll (ps.map Pl.d) + 1 ≤ 64)) = true
  rw [h1, decide_eq_true (by omega)]; rfl
/-- no list of a player is long -/
inductive Pl.Short : Pl → Prop
  | say (b : Bool) : Pl.Short (.say b)
  | ask (p : Str) (n : Int) (parts : List (Int × Pl)) : p.length ≤ 1000 → parts.length ≤ 1000 → (∀ q ∈ parts, Pl.Short q.2) → Pl.Short (.ask p n parts)
  | toss (ps : List Pl) : ps.length ≤ 1000 → (∀ q ∈ ps, Pl.Short q) → Pl.Short (.toss ps)
theorem Pl.Short.kids {p : Pl} (h : Pl.Short p) : p.kids.length ≤ 1000 ∧ ∀ q ∈ p.kids, Pl.Short q := by
  cases h with
  | say b => exact ⟨by simp [Pl.kids], fun q hq => nomatch hq⟩
  | ask p n parts h1 h2 h3 =>
    refine ⟨?_, fun q hq => ?_⟩
    · show (parts.map (·.2)).length ≤ 1000
      rw [List.length_map]
      exact h2
    · obtain ⟨x, hx, rfl⟩ := List.mem_map.mp hq
      exact h3 x hx
  | toss ps h1 h2 => exact ⟨h1, h2⟩
end Gm
set_option Elab.async false
set_option linter.all false
set_option maxRecDepth 100000
set_option maxHeartbeats 4000000
namespace Toy
open PySem L2 Gm
def top (i : Nat) : Stmt := PySem.Challenge.pw_tellsnone_k12_players_that_do_not_fit.main.body.getD i (.Pass ⟨0, 0, 0, 0⟩)
abbrev s_parts_of : Stmt := top 50
theorem sc_parts_of : FnScope ["player", "part"] ["player"] (defScope s_parts_of) := ⟨rfl, rfl, rfl, by decide +kernel, rfl, by decide +kernel, by decide +kernel⟩
abbrev s_check_player : Stmt := top 52
theorem sc_check_player : FnScope ["game", "player"] ["game", "player"] (defScope s_check_player) := ⟨rfl, rfl, rfl, by decide +kernel, rfl, by decide +kernel, by decide +kernel⟩
abbrev s_check_below : Stmt := top 53
theorem sc_check_below : FnScope ["game", "player", "left", "fitting", "part"] ["game", "player", "left"] (defScope s_check_below) := ⟨rfl, rfl, rfl, by decide +kernel, rfl, by decide +kernel, by decide +kernel⟩
abbrev s_check_ask : Stmt := top 54
theorem sc_check_ask : FnScope ["game", "player", "_", "procedure", "number", "parts", "part"] ["game", "player"] (defScope s_check_ask) := ⟨rfl, rfl, rfl, by decide +kernel, rfl, by decide +kernel, by decide +kernel⟩
abbrev s_chance : Stmt := top 55
theorem sc_chance : FnScope ["game", "player"] ["game", "player"] (defScope s_chance) := ⟨rfl, rfl, rfl, by decide +kernel, rfl, by decide +kernel, by decide +kernel⟩
abbrev s_Game_init : Stmt := inClass (top 59) 0
theorem sc_Game_init : FnScope ["self", "variables", "tables", "lots", "procs"] ["self", "variables", "tables", "lots", "procs"] (defScope s_Game_init) := ⟨rfl, rfl, rfl, by decide +kernel, rfl, by decide +kernel, by decide +kernel⟩
abbrev s_Game_proc : Stmt := inClass (top 59) 2
theorem sc_Game_proc : FnScope ["self", "name", "proc"] ["self", "name"] (defScope s_Game_proc) := ⟨rfl, rfl, rfl, by decide +kernel, rfl, by decide +kernel, by decide +kernel⟩
abbrev s_law_cell : Stmt := top 61
theorem sc_law_cell : FnScope ["script", "k"] ["script", "k"] (defScope s_law_cell) := ⟨rfl, rfl, rfl, by decide +kernel, rfl, by decide +kernel, by decide +kernel⟩
abbrev s_law_row : Stmt := top 63
theorem sc_law_row : FnScope ["cell", "count", "size", "state", "row", "k"] ["cell", "count", "size"] (defScope s_law_row) := ⟨rfl, rfl, rfl, by decide +kernel, rfl, by decide +kernel, by decide +kernel⟩
abbrev s_law_side : Stmt := top 67
theorem sc_law_side : FnScope ["code", "names", "variables", "tables", "pick", "rest", "local", "sign"] ["code", "names", "variables", "tables"] (defScope s_law_side) := ⟨rfl, rfl, rfl, by decide +kernel, rfl, by decide +kernel, by decide +kernel⟩
abbrev s_law_value : Stmt := top 68
theorem sc_law_value : FnScope ["cell", "names", "variables", "tables", "kind", "rest", "key", "sign", "left"] ["cell", "names", "variables", "tables"] (defScope s_law_value) := ⟨rfl, rfl, rfl, by decide +kernel, rfl, by decide +kernel, by decide +kernel⟩
abbrev s_law_plain : Stmt := top 69
theorem sc_law_plain : FnScope ["cell", "names", "variables", "tables", "lots", "kind", "rest", "value", "key", "looked"] ["cell", "names", "variables", "tables", "lots"] (defScope s_law_plain) := ⟨rfl, rfl, rfl, by decide +kernel, rfl, by decide +kernel, by decide +kernel⟩
abbrev s_law_block : Stmt := top 70
theorem sc_law_block : FnScope ["cells", "names", "variables", "tables", "lots", "block", "cell", "way", "rest", "inner", "more", "other", "then", "test"] ["cells", "names", "variables", "tables", "lots"] (defScope s_law_block) := ⟨rfl, rfl, rfl, by decide +kernel, rfl, by decide +kernel, by decide +kernel⟩
abbrev s_law_game : Stmt := top 71
theorem sc_law_game : FnScope ["script", "at", "digits", "variables", "tables", "lots", "procs", "k", "names", "cells", "block", "result", "rows", "first", "name"] ["script", "at"] (defScope s_law_game) := ⟨rfl, rfl, rfl, by decide +kernel, rfl, by decide +kernel, by decide +kernel⟩
abbrev s_law_made : Stmt := top 72
theorem sc_law_made : FnScope ["game"] ["game"] (defScope s_law_made) := ⟨rfl, rfl, rfl, by decide +kernel, rfl, by decide +kernel, by decide +kernel⟩
abbrev s_law_player : Stmt := top 73
theorem sc_law_player : FnScope ["cell", "procs", "deep", "kind", "rest", "digits", "digit", "proc", "parts", "answer"] ["cell", "procs", "deep"] (defScope s_law_player) := ⟨rfl, rfl, rfl, by decide +kernel, rfl, by decide +kernel, by decide +kernel⟩
abbrev s_law_refused : Stmt := top 75
theorem sc_law_refused : FnScope ["made", "player", "whole_v", "e"] ["made", "player", "whole_v"] (defScope s_law_refused) := ⟨rfl, rfl, rfl, by decide +kernel, rfl, by decide +kernel, by decide +kernel⟩
abbrev s_law_below : Stmt := top 76
theorem sc_law_below : FnScope ["player", "links", "name", "beside", "cell", "digits", "k", "parts", "at", "answers", "count", "j"] ["player", "links", "name", "beside", "cell"] (defScope s_law_below) := ⟨rfl, rfl, rfl, by decide +kernel, rfl, by decide +kernel, by decide +kernel⟩
abbrev s_law_twice : Stmt := top 77
theorem sc_law_twice : FnScope ["cell", "parts", "k", "again", "at"] ["cell"] (defScope s_law_twice) := ⟨rfl, rfl, rfl, by decide +kernel, rfl, by decide +kernel, by decide +kernel⟩
abbrev s_law_faulty : Stmt := top 78
theorem sc_law_faulty : FnScope ["way", "name", "yes", "rows"] ["way", "name"] (defScope s_law_faulty) := ⟨rfl, rfl, rfl, by decide +kernel, rfl, by decide +kernel, by decide +kernel⟩
abbrev s_law_wide : Stmt := top 79
theorem sc_law_wide : FnScope ["player", "name", "cell", "at", "parts", "answer"] ["player", "name", "cell"] (defScope s_law_wide) := ⟨rfl, rfl, rfl, by decide +kernel, rfl, by decide +kernel, by decide +kernel⟩
abbrev s_law : Stmt := top 80
theorem sc_law : FnScope ["script", "game", "made", "name", "player", "way", "cell", "small", "wild", "great", "deep", "bare", "wide", "faulty", "one"] ["script"] (defScope s_law) := ⟨rfl, rfl, rfl, by decide +kernel, rfl, by decide +kernel, by decide +kernel⟩
/-! ### the promises of the drawn parts -/
def spCell (K : PySem.W.Frag) : Sp := fun vs H Q _ => ∃ (a : Addr) (ns : List Int) (k : Int), vs = [.ref a, .int k] ∧ SqL K H a (ns.map V.int) ∧ 0 ≤ k ∧ Q (.int (ns.getD k.toNat 0)) H
def spRow : Sp := fun vs H Q _ => ∃ (cell count size : Int), vs = [.int cell, .int count, .int size] ∧ 0 ≤ count ∧ count ≤ 1000 ∧ 0 < size ∧ size.natAbs < 2 ^ 100 ∧
  ∀ (p : Addr) (ns : List Int) (H' : Hp), Same H H' → H' p = some (.lst (ns.map V.int)) → ns.length = count.toNat → (∀ x ∈ ns, 0 ≤ x ∧ x < size) → Q (.ref p) H'
/-- the names that a part may use stand at these places -/
structure At (K : PySem.W.Frag) (s : Sc) (H : Hp) (na va ta : Addr) : Prop where
  n : SqT K H na (s.locs.map V.str)
  v : SqL K H va (s.vars.map V.str)
  t : SqL K H ta (s.tabs.map V.str)
  n0 : s.locs ≠ []
theorem At.mono {K : PySem.W.Frag} {s : Sc} {H H' : Hp} {na va ta : Addr} (a : At K s H na va ta) (e : Same H H') : At K s H' na va ta := ⟨sqT_mono e a.n, e.seq a.v, e.seq a.t, a.n0⟩
def spSide (K : PySem.W.Frag) (k : Nat) : Sp := fun vs H Q _ => ∃ (code : Int) (na va ta : Addr) (s : Sc), vs = [.int code, .ref na, .ref va, .ref ta] ∧ At K s H na va ta ∧
  ∀ (v : V) (e : Ex) (H' : Hp), Same H H' → Dp K H' v e.d → e.Ok s k → Q v H'
def spPlain (K : PySem.W.Frag) : Sp := fun vs H Q _ => ∃ (code : Int) (na va ta la : Addr) (s : Sc), vs = [.int code, .ref na, .ref va, .ref ta, .ref la] ∧ At K s H na va ta ∧ SqL K H la (s.lots.map V.str) ∧
  ∀ (v : V) (x : Stm) (H' : Hp), Same H H' → Dp K H' v x.d → x.Ok s 3 0 → Q v H'
def spBlock (K : PySem.W.Frag) : Sp := fun vs H Q _ => ∃ (ca na va ta la : Addr) (ns : List Int) (s : Sc), vs = [.ref ca, .ref na, .ref va, .ref ta, .ref la] ∧ SqL K H ca (ns.map V.int) ∧ ns.length ≤ 1000 ∧ At K s H na va ta ∧ SqL K H la (s.lots.map V.str) ∧
  ∀ (v : V) (b : Blk) (H' : Hp), Same H H' → Dp K H' v b.d → b.Ok s 3 2 → b.len = ns.length → Q v H'
set_option genInjectivity false in
set_option genSizeOf false in
set_option genSizeOfSpec false in
structure Txt (K : PySem.W.Frag) (mg : Str → Option Value) where
  o_n : PySem.W.specialIn K (.builtin "object.__class__") "__get__" = some (some (.builtin "getset_descriptor.__get__"))
  o_t : PySem.W.takesIn K (.builtin "object.__class__") = some true
  C_Game : Addr
  g_Game : mg "Game" = some (.ref C_Game)
  cl_Game : Cls K C_Game
  sf_Game : PySem.W.selfFirst K C_Game = true
  na_Game_variables : NoAttr K C_Game "variables"
  na_Game_tables : NoAttr K C_Game "tables"
  na_Game_lots : NoAttr K C_Game "lots"
  na_Game_procs : NoAttr K C_Game "procs"
  a_parts_of : Addr
  fd_parts_of : FuncData
  F_parts_of : Fun K "parts_of" "parts_of" s_parts_of a_parts_of fd_parts_of
  b_parts_of : L2.Binds K fd_parts_of ["player"] []
  k_parts_of : PySem.W.keepIn K (.ref a_parts_of) = true
  g_parts_of : mg "parts_of" = some (.ref a_parts_of)
  a_check_player : Addr
  fd_check_player : FuncData
  F_check_player : Fun K "check_player" "check_player" s_check_player a_check_player fd_check_player
  b_check_player : L2.Binds K fd_check_player ["game", "player"] []
  k_check_player : PySem.W.keepIn K (.ref a_check_player) = true
  g_check_player : mg "check_player" = some (.ref a_check_player)
  a_check_below : Addr
  fd_check_below : FuncData
  F_check_below : Fun K "check_below" "check_below" s_check_below a_check_below fd_check_below
  b_check_below : L2.Binds K fd_check_below ["game", "player", "left"] []
  k_check_below : PySem.W.keepIn K (.ref a_check_below) = true
  g_check_below : mg "check_below" = some (.ref a_check_below)
  a_check_ask : Addr
  fd_check_ask : FuncData
  F_check_ask : Fun K "check_ask" "check_ask" s_check_ask a_check_ask fd_check_ask
  b_check_ask : L2.Binds K fd_check_ask ["game", "player"] []
  k_check_ask : PySem.W.keepIn K (.ref a_check_ask) = true
  g_check_ask : mg "check_ask" = some (.ref a_check_ask)
  a_chance : Addr
  fd_chance : FuncData
  F_chance : Fun K "chance" "chance" s_chance a_chance fd_chance
  b_chance : L2.Binds K fd_chance ["game", "player"] []
  k_chance : PySem.W.keepIn K (.ref a_chance) = true
  g_chance : mg "chance" = some (.ref a_chance)
  a_Game_init : Addr
  fd_Game_init : FuncData
  F_Game_init : Fun K "__init__" "Game.__init__" s_Game_init a_Game_init fd_Game_init
  b_Game_init : L2.Binds K fd_Game_init ["self", "variables", "tables", "lots", "procs"] []
  k_Game_init : PySem.W.keepIn K (.ref a_Game_init) = true
  m_Game_init : Meth K C_Game "__init__" a_Game_init
  a_Game_proc : Addr
  fd_Game_proc : FuncData
  F_Game_proc : Fun K "proc" "Game.proc" s_Game_proc a_Game_proc fd_Game_proc
  b_Game_proc : L2.Binds K fd_Game_proc ["self", "name"] []
  k_Game_proc : PySem.W.keepIn K (.ref a_Game_proc) = true
  m_Game_proc : Meth K C_Game "proc" a_Game_proc
  a_law_cell : Addr
  fd_law_cell : FuncData
  F_law_cell : Fun K "_law_cell" "_law_cell" s_law_cell a_law_cell fd_law_cell
  b_law_cell : L2.Binds K fd_law_cell ["script", "k"] []
  k_law_cell : PySem.W.keepIn K (.ref a_law_cell) = true
  g_law_cell : mg "_law_cell" = some (.ref a_law_cell)
  a_law_row : Addr
  fd_law_row : FuncData
  F_law_row : Fun K "_law_row" "_law_row" s_law_row a_law_row fd_law_row
  b_law_row : L2.Binds K fd_law_row ["cell", "count", "size"] []
  k_law_row : PySem.W.keepIn K (.ref a_law_row) = true
  g_law_row : mg "_law_row" = some (.ref a_law_row)
  a_law_side : Addr
  fd_law_side : FuncData
  F_law_side : Fun K "_law_side" "_law_side" s_law_side a_law_side fd_law_side
  b_law_side : L2.Binds K fd_law_side ["code", "names", "variables", "tables"] []
  k_law_side : PySem.W.keepIn K (.ref a_law_side) = true
  g_law_side : mg "_law_side" = some (.ref a_law_side)
  a_law_value : Addr
  fd_law_value : FuncData
  F_law_value : Fun K "_law_value" "_law_value" s_law_value a_law_value fd_law_value
  b_law_value : L2.Binds K fd_law_value ["cell", "names", "variables", "tables"] []
  k_law_value : PySem.W.keepIn K (.ref a_law_value) = true
  g_law_value : mg "_law_value" = some (.ref a_law_value)
  a_law_plain : Addr
  fd_law_plain : FuncData
  F_law_plain : Fun K "_law_plain" "_law_plain" s_law_plain a_law_plain fd_law_plain
  b_law_plain : L2.Binds K fd_law_plain ["cell", "names", "variables", "tables", "lots"] []
  k_law_plain : PySem.W.keepIn K (.ref a_law_plain) = true
  g_law_plain : mg "_law_plain" = some (.ref a_law_plain)
  a_law_block : Addr
  fd_law_block : FuncData
  F_law_block : Fun K "_law_block" "_law_block" s_law_block a_law_block fd_law_block
  b_law_block : L2.Binds K fd_law_block ["cells", "names", "variables", "tables", "lots"] []
  k_law_block : PySem.W.keepIn K (.ref a_law_block) = true
  g_law_block : mg "_law_block" = some (.ref a_law_block)
  a_law_game : Addr
  fd_law_game : FuncData
  F_law_game : Fun K "_law_game" "_law_game" s_law_game a_law_game fd_law_game
  b_law_game : L2.Binds K fd_law_game ["script", "at"] []
  k_law_game : PySem.W.keepIn K (.ref a_law_game) = true
  g_law_game : mg "_law_game" = some (.ref a_law_game)
  a_law_made : Addr
  fd_law_made : FuncData
  F_law_made : Fun K "_law_made" "_law_made" s_law_made a_law_made fd_law_made
  b_law_made : L2.Binds K fd_law_made ["game"] []
  k_law_made : PySem.W.keepIn K (.ref a_law_made) = true
  g_law_made : mg "_law_made" = some (.ref a_law_made)
  a_law_player : Addr
  fd_law_player : FuncData
  F_law_player : Fun K "_law_player" "_law_player" s_law_player a_law_player fd_law_player
  b_law_player : L2.Binds K fd_law_player ["cell", "procs", "deep"] []
  k_law_player : PySem.W.keepIn K (.ref a_law_player) = true
  g_law_player : mg "_law_player" = some (.ref a_law_player)
  a_law_refused : Addr
  fd_law_refused : FuncData
  F_law_refused : Fun K "_law_refused" "_law_refused" s_law_refused a_law_refused fd_law_refused
  b_law_refused : L2.Binds K fd_law_refused ["made", "player", "whole_v"] []
  k_law_refused : PySem.W.keepIn K (.ref a_law_refused) = true
  g_law_refused : mg "_law_refused" = some (.ref a_law_refused)
  a_law_below : Addr
  fd_law_below : FuncData
  F_law_below : Fun K "_law_below" "_law_below" s_law_below a_law_below fd_law_below
  b_law_below : L2.Binds K fd_law_below ["player", "links", "name", "beside", "cell"] []
  k_law_below : PySem.W.keepIn K (.ref a_law_below) = true
  g_law_below : mg "_law_below" = some (.ref a_law_below)
  a_law_twice : Addr
  fd_law_twice : FuncData
  F_law_twice : Fun K "_law_twice" "_law_twice" s_law_twice a_law_twice fd_law_twice
  b_law_twice : L2.Binds K fd_law_twice ["cell"] []
  k_law_twice : PySem.W.keepIn K (.ref a_law_twice) = true
  g_law_twice : mg "_law_twice" = some (.ref a_law_twice)
  a_law_faulty : Addr
  fd_law_faulty : FuncData
  F_law_faulty : Fun K "_law_faulty" "_law_faulty" s_law_faulty a_law_faulty fd_law_faulty
  b_law_faulty : L2.Binds K fd_law_faulty ["way", "name"] []
  k_law_faulty : PySem.W.keepIn K (.ref a_law_faulty) = true
  g_law_faulty : mg "_law_faulty" = some (.ref a_law_faulty)
  a_law_wide : Addr
  fd_law_wide : FuncData
  F_law_wide : Fun K "_law_wide" "_law_wide" s_law_wide a_law_wide fd_law_wide
  b_law_wide : L2.Binds K fd_law_wide ["player", "name", "cell"] []
  k_law_wide : PySem.W.keepIn K (.ref a_law_wide) = true
  g_law_wide : mg "_law_wide" = some (.ref a_law_wide)
  a_law : Addr
  fd_law : FuncData
  F_law : Fun K "law" "law" s_law a_law fd_law
  b_law : L2.Binds K fd_law ["script"] []
  k_law : PySem.W.keepIn K (.ref a_law) = true
  g_law : mg "law" = some (.ref a_law)
  mk_Game : Mk K C_Game a_Game_init
  C_BadPlayer : Addr
  g_BadPlayer : mg "BadPlayer" = some (.ref C_BadPlayer)
  kc_BadPlayer : PySem.W.keepIn K (.ref C_BadPlayer) = true
  xb_BadPlayer : PySem.W.subIn K (.ref C_BadPlayer) (.type "BaseException") = some true
  xt_BadPlayer : PySem.W.typeIn K (.ref C_BadPlayer) = some (.type "type")
  xd_BadPlayer : PySem.W.hasDictIn K C_BadPlayer = true
  x_BadPlayer : PySem.W.excIn K C_BadPlayer [.type "ValueError", .type "Exception", .type "BaseException", .type "object"] "ValueError.__new__" = true
  C_PlayError : Addr
  g_PlayError : mg "PlayError" = some (.ref C_PlayError)
  kc_PlayError : PySem.W.keepIn K (.ref C_PlayError) = true
  xb_PlayError : PySem.W.subIn K (.ref C_PlayError) (.type "BaseException") = some true
  xt_PlayError : PySem.W.typeIn K (.ref C_PlayError) = some (.type "type")
  xd_PlayError : PySem.W.hasDictIn K C_PlayError = true
  C_BadBound : Addr
  g_BadBound : mg "BadBound" = some (.ref C_BadBound)
  C_BadCall : Addr
  g_BadCall : mg "BadCall" = some (.ref C_BadCall)
  C_BadPaper : Addr
  g_BadPaper : mg "BadPaper" = some (.ref C_BadPaper)
  C_BadStep : Addr
  g_BadStep : mg "BadStep" = some (.ref C_BadStep)
  C_BadText : Addr
  g_BadText : mg "BadText" = some (.ref C_BadText)
  C_TooLarge : Addr
  g_TooLarge : mg "TooLarge" = some (.ref C_TooLarge)
  ec_BadPlayer : ExcC K C_BadPlayer
  g_DEEPEST_PLAYER : ∃ t, mg "DEEPEST_PLAYER" = some (.int 8 t)
  g_MOST_TOSSED : ∃ t, mg "MOST_TOSSED" = some (.int 16 t)
  z_len : mg "len" = none
  z_range : mg "range" = none
  z_int : mg "int" = none
  z_tuple : mg "tuple" = none
  z_list : mg "list" = none
  z_isinstance : mg "isinstance" = none
  z_abs : mg "abs" = none
  sub_bp : PySem.W.subIn K (.ref C_BadPlayer) (.ref C_PlayError) = some true
  ki_b : PySem.W.kitOne K (.ref C_BadPlayer) (.ref C_BadPlayer) = some true
  ki_e : PySem.W.kitAny K (.ref C_BadPlayer) [.ref C_BadBound, .ref C_BadCall, .ref C_BadPaper, .ref C_BadStep, .ref C_BadText, .ref C_TooLarge] = some false
section
variable {P : Program} {w : World} {K : PySem.W.Frag} {mg : Str → Option Value} {base : Heap}
theorem ok_cell (T : Txt K mg) : FnOk P w K mg base CX0 1 T.a_law_cell T.fd_law_cell ["script", "k"] (spCell K) := by
  refine T.F_law_cell.ok sc_law_cell (fun vs H Q E h => ?_) (fun cdv A outer s H vs Q E hr h => ?_)
  · obtain ⟨a, ns, k, rfl, _⟩ := h
    rfl
  obtain ⟨a, ns, k, rfl, hS, h0, q⟩ := h
  refine ⟨_, (pss_cons (ps_if (pt_cmpR op_lt (pv 1) (pe_callB call_len_seq (by rfl) T.z_len (by decide +kernel) (pa_cons (pv 0) pa_nil)) (nomark _))
      (pss_one (ps_ret (pe_ix ix_list (pv 0) (pv 1) (fun _ _ => rfl))))
      pss_nil)
    (pss_one (ps_ret pe_int))), ?_⟩
  refine ⟨_, rfl, _, rfl, a, _, rfl, .inl hS, _, _, rfl, rfl, _, rfl, ?_⟩
  refine ite2 (fun c => ?_) (fun c => ?_)
  · have c' := of_decide_eq_true c
    rw [List.length_map] at c'
    have hk : k.toNat < ns.length := by omega
    have e : atI (ns.map V.int) k = some (.int (ns.getD k.toNat 0)) := at_of (j := k.toNat) (by omega) (by rw [List.getElem?_map, List.getElem?_eq_getElem hk, List.getD_eq_getElem?_getD, List.getElem?_eq_getElem hk] <;> rfl)
    exact ⟨_, rfl, _, rfl, a, _, _, _, rfl, rfl, hS, e, q⟩
  · have c' := of_decide_eq_false (Bool.eq_false_iff.mpr c)
    rw [List.length_map] at c'
    have e : ns.getD k.toNat 0 = 0 := by rw [List.getD_eq_getElem?_getD, List.getElem?_eq_none (by omega)] <;> rfl
    rw [e] at q
    exact q
theorem ok_row (T : Txt K mg) : FnOk P w K mg base CX0 1 T.a_law_row T.fd_law_row ["cell", "count", "size"] spRow := by
  refine T.F_law_row.ok sc_law_row (fun vs H Q E h => ?_) (fun cdv A outer s H vs Q E hr h => ?_)
  · obtain ⟨c, n, z, rfl, _⟩ := h
    rfl
  obtain ⟨cell, count, size, rfl, c0, c1, s0, s1, q⟩ := h
  refine ⟨_, (pss_cons (ps_set (i := 3) sc_law_row.nd rfl (Or.inl rfl) (pv 0))
    (pss_cons (ps_set (i := 4) sc_law_row.nd rfl (Or.inl rfl) (pe_lst pa_nil))
    (pss_cons (ps_for PassesOwn.never rfl (pi_range1 (by rfl) T.z_range (pa_cons (pv 1) pa_nil)) (pg_name (i := 5) sc_law_row.nd rfl (Or.inl rfl))
      (pss_one (ps_if (pt_cmpR op_ge (pv 0) (pe_op op_pow pe_int pe_int) (nomark _))
      (pss_cons (ps_expr (pe_bm PySem.F.plainAttrs_list PySem.F.slot_list_append PySem.F.type_list_append mt_append (pv 4) (pa_cons (pe_op op_mod (pe_callTy call_int1 (by rfl) T.z_int (by decide +kernel) (pa_cons (pv 3) pa_nil)) (pv 2)) pa_nil)))
    (pss_one (ps_set (i := 3) sc_law_row.nd rfl (Or.inl rfl) (pe_op op_fdivW (pv 3) (pv 2)))))
      (pss_cons (ps_set (i := 3) sc_law_row.nd rfl (Or.inl rfl) (pe_op op_mod (pe_op op_add (pe_op op_mul (pv 3) pe_int) pe_int) pe_int))
    (pss_one (ps_expr (pe_bm PySem.F.plainAttrs_list PySem.F.slot_list_append PySem.F.type_list_append mt_append (pv 4) (pa_cons (pe_op op_mod (pe_op op_mod (pe_callTy call_int1 (by rfl) T.z_int (by decide +kernel) (pa_cons (pe_op op_add (pe_op op_mul (pv 3) pe_int) (pe_op op_mul (pv 5) pe_int)) pa_nil)) pe_int) (pv 2)) pa_nil))))))))
    (pss_one (ps_ret (pv 4)))))), ?_⟩
  refine ⟨_, rfl, (by show 0 ≤ sizeLine; decide), fun l hl => ?_⟩
  refine ⟨_, rfl, _, rfl, by omega, by omega, for_range (lo := 0) (n := count.toNat) (fun i σ H' => ∃ (st : Int) (ns : List Int) (kV : Option V), σ = [some (.int cell), some (.int count), some (.int size), some (.int st), some (.ref l), kV] ∧
    Same H H' ∧ H' l = some (.lst (ns.map V.int)) ∧ ns.length = i ∧ ∀ x ∈ ns, 0 ≤ x ∧ x < size) ⟨cell, [], none, rfl, same_new hl _, upd_same, rfl, fun x hx => nomatch hx⟩ ?_ ?_⟩
  · rintro i σ H' hi ⟨st, ns, kV, rfl, m, hL, hn, hb⟩
    have big : ns.length < sizeLine := small1000 (by omega)
    have nl : ∀ b o, H b = some o → b ≠ l := fun b o e => ne_of_none e hl
    have fin : ∀ (st' y : Int) (H2 : Hp), 0 ≤ y → y < size → H2 = upd H' l (.lst (ns.map V.int ++ [.int y])) → ∃ (st'' : Int) (ns' : List Int) (kV : Option V), ([some (.int cell), some (.int count), some (.int size), some (.int st'), some (.ref l), some (.int (0 + (i : Int)))] : List (Option V)) =
        [some (.int cell), some (.int count), some (.int size), some (.int st''), some (.ref l), kV] ∧ Same H H2 ∧ H2 l = some (.lst (ns'.map V.int)) ∧ ns'.length = i + 1 ∧ ∀ x ∈ ns', 0 ≤ x ∧ x < size := by
      intro st' y H2 h0 h1 e
      subst e
      refine ⟨st', ns ++ [y], _, rfl, fun b o z => by rw [upd_ne (nl b o z)]; exact m b o z, by rw [upd_same, List.map_append]; all_goals rfl, by rw [List.length_append, hn]; all_goals rfl, fun x hx => ?_⟩
      rcases List.mem_append.mp hx with z | z
      · exact hb x z
      · rw [List.mem_singleton.mp z]
        exact ⟨h0, h1⟩
    refine ⟨_, rfl, _, _, rfl, rfl, ⟨by decide, by decide, by decide⟩, _, _, rfl, rfl, _, rfl, ?_⟩
    refine ite2 (fun c => ?_) (fun c => ?_)
    · refine ⟨_, rfl, .inl ⟨rfl, _, SqL.of hL⟩, _, rfl, .inl ⟨_, rfl, _, rfl, _, _, rfl, rfl, s0, l, _, _, rfl, rfl, hL, (by rw [List.length_map]; exact big), ?_⟩⟩
      refine ⟨_, rfl, _, rfl, _, _, rfl, rfl, wide_div s0 s1 (by decide) (by decide), ?_⟩
      exact fin _ _ _ (Int.emod_nonneg _ (by omega)) (Int.emod_lt_of_pos _ s0) rfl
    · refine ⟨_, rfl, _, _, rfl, rfl, .inr ⟨by decide, by decide⟩, _, _, rfl, rfl, _, _, rfl, rfl, (by show (0 : Int) < 2147483647; decide), ?_⟩
      refine ⟨_, rfl, .inl ⟨rfl, _, SqL.of hL⟩, _, rfl, _, _, rfl, rfl, .inr ⟨by decide, by decide⟩, _, rfl, _, _, rfl, rfl, .inr ⟨by decide, by decide⟩, _, _, rfl, rfl, .inl ⟨_, rfl, ?_⟩⟩
      refine ⟨_, _, rfl, rfl, (by show (0 : Int) < 2147483647; decide), _, rfl, _, _, rfl, rfl, s0, l, _, _, rfl, rfl, hL, (by rw [List.length_map]; exact big), ?_⟩
      exact fin _ _ _ (Int.emod_nonneg _ (by omega)) (Int.emod_lt_of_pos _ s0) rfl
  · rintro σ H' ⟨st, ns, kV, rfl, m, hL, hn, hb⟩
    exact ⟨_, rfl, q l ns H' m hL hn hb⟩
theorem num_ok {sc : Sc} (a m : Int) (k : Nat) (h1 : 0 < m) (h2 : m ≤ 65535) : (Ex.num (a % m)).Ok sc (k + 1) := by
  have e0 := Int.emod_nonneg a (by omega : m ≠ 0)
  have e1 := Int.emod_lt_of_pos a h1
  exact ⟨e0, by omega⟩
theorem dp_num {H : Hp} {p : Addr} (hp : H p = none) (n : Int) : Dp K (upd H p (.tup [.str "number", .int n])) (.ref p) (Ex.num n).d := by unfold Ex.d; exact dp_tup hp (.cons (.str _) (.cons (.int _) .nil))
theorem dp_loc {H : Hp} {p : Addr} (hp : H p = none) (x : Str) : Dp K (upd H p (.tup [.str "local", .str x])) (.ref p) (Ex.loc x).d := by unfold Ex.d; exact dp_tup hp (.cons (.str _) (.cons (.str _) .nil))
theorem dp_var {H : Hp} {p : Addr} (hp : H p = none) (x : Str) : Dp K (upd H p (.tup [.str "variable", .str x])) (.ref p) (Ex.var x).d := by unfold Ex.d; exact dp_tup hp (.cons (.str _) (.cons (.str _) .nil))
theorem dp_has {H : Hp} {p : Addr} (hp : H p = none) (t : Str) {v : V} {e : Ex} (d : Dp K H v e.d) : Dp K (upd H p (.tup [.str "has", .str t, v])) (.ref p) (Ex.has t e).d := by
  show Dp K _ _ (.tuple [.str "has", .str t, e.d]); exact dp_tup hp (.cons (.str _) (.cons (.str _) (.cons d .nil)))
theorem dp_cell {H : Hp} {p : Addr} (hp : H p = none) (t : Str) {v : V} {e : Ex} (d : Dp K H v e.d) : Dp K (upd H p (.tup [.str "cell", .str t, v])) (.ref p) (Ex.cell t e).d := by
  show Dp K _ _ (.tuple [.str "cell", .str t, e.d]); exact dp_tup hp (.cons (.str _) (.cons (.str _) (.cons d .nil)))
theorem dp_op {H : Hp} {p : Addr} (hp : H p = none) (o : Str) {v u : V} {e f : Ex} (d : Dp K H v e.d) (d' : Dp K H u f.d) : Dp K (upd H p (.tup [.str o, v, u])) (.ref p) (Ex.op o e f).d := by
  show Dp K _ _ (.tuple [.str o, e.d, f.d]); exact dp_tup hp (.cons (.str _) (.cons d (.cons d' .nil)))
theorem ok_side (T : Txt K mg) : FnOk P w K mg base CX0 1 T.a_law_side T.fd_law_side ["code", "names", "variables", "tables"] (spSide K 2) := by
  refine T.F_law_side.ok sc_law_side (fun vs H Q E h => ?_) (fun cdv A outer s H vs Q E hr h => ?_)
  · obtain ⟨c, na, va, ta, s, rfl, _⟩ := h
    rfl
  obtain ⟨code, na, va, ta, sc, rfl, hA, q⟩ := h
  refine ⟨_, (pss_cons (ps_set (i := 4) sc_law_side.nd rfl (Or.inl rfl) (pe_op op_mod (pe_callTy call_int1 (by rfl) T.z_int (by decide +kernel) (pa_cons (pv 0) pa_nil)) pe_int))
    (pss_cons (ps_set (i := 5) sc_law_side.nd rfl (Or.inl rfl) (pe_op op_fdivW (pe_callTy call_int1 (by rfl) T.z_int (by decide +kernel) (pa_cons (pv 0) pa_nil)) pe_int))
    (pss_cons (ps_set (i := 6) sc_law_side.nd rfl (Or.inl rfl) (pe_tup (pa_cons pe_str (pa_cons (pe_ix ix_tup (pv 1) (pe_op op_mod (pv 5) (pe_callB call_len_seq (by rfl) T.z_len (by decide +kernel) (pa_cons (pv 1) pa_nil))) (fun _ _ => rfl)) pa_nil))))
    (pss_cons (ps_if (pt_cmpR op_lt (pv 4) pe_int (nomark _))
      (pss_one (ps_ret (pv 6)))
      pss_nil)
    (pss_cons (ps_if (PW.pt (pw_and (pt_cmpR op_eq (pv 4) pe_int (nomark _)) (pw_and1 (pt_cmpR op_gt (pe_callB call_len_seq (by rfl) T.z_len (by decide +kernel) (pa_cons (pv 2) pa_nil)) pe_int (nomark _)))))
      (pss_one (ps_ret (pe_tup (pa_cons pe_str (pa_cons (pe_ix ix_list (pv 2) (pe_op op_mod (pv 5) (pe_callB call_len_seq (by rfl) T.z_len (by decide +kernel) (pa_cons (pv 2) pa_nil))) (fun _ _ => rfl)) pa_nil)))))
      pss_nil)
    (pss_cons (ps_if (PW.pt (pw_and (pt_cmpR op_eq (pv 4) pe_int (nomark _)) (pw_and1 (pt_cmpR op_gt (pe_callB call_len_seq (by rfl) T.z_len (by decide +kernel) (pa_cons (pv 3) pa_nil)) pe_int (nomark _)))))
      (pss_one (ps_ret (pe_tup (pa_cons (pe_ix ix_tup (pe_tup (pa_cons pe_str (pa_cons pe_str pa_nil))) (pe_op op_mod (pv 5) pe_int) (fun _ _ => rfl)) (pa_cons (pe_ix ix_list (pv 3) (pe_op op_mod (pe_op op_fdivW (pv 5) pe_int) (pe_callB call_len_seq (by rfl) T.z_len (by decide +kernel) (pa_cons (pv 3) pa_nil))) (fun _ _ => rfl)) (pa_cons (pv 6) pa_nil))))))
      pss_nil)
    (pss_cons (ps_if (pt_cmpR op_eq (pv 4) pe_int (nomark _))
      (pss_one (ps_ret (pe_tup (pa_cons (pe_ix ix_tup (pe_tup (pa_cons pe_str (pa_cons pe_str (pa_cons pe_str (pa_cons pe_str (pa_cons pe_str (pa_cons pe_str (pa_cons pe_str pa_nil)))))))) (pe_op op_mod (pe_op op_fdivW (pv 5) pe_int) pe_int) (fun _ _ => rfl)) (pa_cons (pv 6) (pa_cons (pe_tup (pa_cons pe_str (pa_cons (pe_op op_mod (pe_op op_fdivW (pv 5) pe_int) pe_int) pa_nil))) pa_nil))))))
      pss_nil)
    (pss_cons (ps_if (PW.pt (pw_and (pt_cmpR op_eq (pv 4) pe_int (nomark _)) (pw_and1 (pt_cmpR op_eq (pe_op op_mod (pv 5) pe_int) pe_int (nomark _)))))
      (pss_cons (ps_set (i := 7) sc_law_side.nd rfl (Or.inl rfl) (pe_ix ix_tup (pe_tup (pa_cons pe_str (pa_cons pe_str (pa_cons pe_str (pa_cons pe_str (pa_cons pe_str (pa_cons pe_str (pa_cons pe_str pa_nil)))))))) (pe_op op_mod (pe_op op_fdivW (pv 5) pe_int) pe_int) (fun _ _ => rfl)))
    (pss_one (ps_ret (pe_tup (pa_cons (pv 7) (pa_cons (pe_tup (pa_cons pe_str (pa_cons (pe_op op_mod (pe_op op_fdivW (pv 5) pe_int) pe_int) pa_nil))) (pa_cons (pe_tup (pa_cons pe_str (pa_cons (pe_op op_mod (pe_op op_fdivW (pv 5) pe_int) pe_int) pa_nil))) pa_nil)))))))
      pss_nil)
    (pss_one (ps_ret (pe_tup (pa_cons pe_str (pa_cons (pe_op op_mod (pv 5) pe_int) pa_nil))))))))))))), ?_⟩
  have two : (2 : Nat) ≤ sizeLine := by decide
  have three : (3 : Nat) ≤ sizeLine := by decide
  have seven : (7 : Nat) ≤ sizeLine := by decide
  refine ⟨_, rfl, .inl ⟨_, rfl, _, _, rfl, rfl, (by show (0 : Int) < 6; decide), ?_⟩⟩
  refine ⟨_, rfl, .inl ⟨_, rfl, _, _, rfl, rfl, ⟨by decide, by decide⟩, ?_⟩⟩
  dsimp only
  generalize code / 6 = r
  generalize code % 6 = pk
  obtain ⟨x, hx, ex⟩ := pick_mem (r := r) hA.n0
  refine ⟨_, rfl, _, rfl, _, rfl, na, _, rfl, .inr hA.n, _, _, rfl, rfl, len_pos hA.n0, na, _, _, _, rfl, rfl, hA.n, ex, two, fun p hp => ?_⟩
  have m1 := same_new hp (.tup [.str "local", .str x])
  have hA1 := hA.mono m1
  have d1 : Dp K (upd H p (.tup [.str "local", .str x])) (.ref p) (Ex.loc x).d := by unfold Ex.d; exact dp_tup hp (.cons (.str _) (.cons (.str _) .nil))
  have o1 : (Ex.loc x).Ok sc 1 := hx
  generalize upd H p (.tup [.str "local", .str x]) = H1 at *
  refine ⟨_, rfl, _, _, rfl, rfl, _, rfl, ite2 (fun c => ?_) (fun c1 => ?_)⟩
  · exact ⟨_, rfl, q _ _ _ m1 d1 (o1.mono (by decide))⟩
  -- a variable
  refine ⟨_, rfl, rfl, _, rfl, and_if ?_ fun _ rest => ?_⟩
  rotate_left
  · refine ⟨_, rfl, va, _, rfl, .inl hA1.v, _, _, rfl, rfl, _, rfl, ite2 (fun c => ?_) (fun _ => rest)⟩
    have v0 := ne_of_len c
    obtain ⟨y, hy, ey⟩ := pick_mem (r := r) v0
    refine ⟨_, rfl, _, rfl, _, rfl, va, _, rfl, .inl hA1.v, _, _, rfl, rfl, len_pos v0, va, _, _, _, rfl, rfl, hA1.v, ey, two, fun p2 hp2 => ?_⟩
    refine q _ (.var y) _ (m1.trans (same_new hp2 _)) ?_ (show y ∈ sc.vars from hy)
    unfold Ex.d
    exact dp_tup hp2 (.cons (.str _) (.cons (.str _) .nil))
  -- a look at a table
  refine ⟨_, rfl, rfl, _, rfl, and_if ?_ fun _ rest => ?_⟩
  rotate_left
  · refine ⟨_, rfl, ta, _, rfl, .inl hA1.t, _, _, rfl, rfl, _, rfl, ite2 (fun c => ?_) (fun _ => rest)⟩
    have t0 := ne_of_len c
    obtain ⟨y, hy, ey⟩ := pick_mem (r := r / 2) t0
    refine ⟨two, fun p2 hp2 => ?_⟩
    have m2 := same_new hp2 (.tup [.str "has", .str "cell"])
    have hA2 := hA1.mono m2
    have d2 := dp_mono m2 _ _ d1
    have go : ∀ h : Str, (h = "has" ∨ h = "cell") → ∀ H3, Same H H3 → At K sc H3 na va ta → Dp K H3 (.ref p) (Ex.loc x).d →
        tTup (fun σ H' Q' => Q' [.str h, .str y, .ref p] H') [] H3 Q := by
      intro h hh H3 m3 hA3 d3
      refine ⟨three, fun p4 hp4 => ?_⟩
      rcases hh with rfl | rfl
      · refine q _ (.has y (.loc x)) _ (m3.trans (same_new hp4 _)) ?_ ⟨hy, hx⟩
        unfold Ex.d
        exact dp_tup hp4 (.cons (.str _) (.cons (.str _) (.cons d3 .nil)))
      · refine q _ (.cell y (.loc x)) _ (m3.trans (same_new hp4 _)) ?_ ⟨hy, hx⟩
        unfold Ex.d
        exact dp_tup hp4 (.cons (.str _) (.cons (.str _) (.cons d3 .nil)))
    rcases pick_two (a := V.str "has") (b := V.str "cell") (r := r) with e2 | e2
    · refine ⟨_, rfl, _, _, rfl, rfl, (by show (0 : Int) < 2; decide), p2, _, _, _, rfl, rfl, SqT.of upd_same, e2, ?_⟩
      refine ⟨_, rfl, _, rfl, _, _, rfl, rfl, ⟨by decide, by decide⟩, _, rfl, ta, _, rfl, .inl hA2.t, _, _, rfl, rfl, len_pos t0, ta, _, _, _, rfl, rfl, hA2.t, ey, _, rfl, ?_⟩
      exact go _ (.inl rfl) _ (m1.trans m2) hA2 d2
    · refine ⟨_, rfl, _, _, rfl, rfl, (by show (0 : Int) < 2; decide), p2, _, _, _, rfl, rfl, SqT.of upd_same, e2, ?_⟩
      refine ⟨_, rfl, _, rfl, _, _, rfl, rfl, ⟨by decide, by decide⟩, _, rfl, ta, _, rfl, .inl hA2.t, _, _, rfl, rfl, len_pos t0, ta, _, _, _, rfl, rfl, hA2.t, ey, _, rfl, ?_⟩
      exact go _ (.inr rfl) _ (m1.trans m2) hA2 d2
  -- an operator on a local and a number
  have numok : ∀ (a m : Int) (k : Nat), 0 < m → m ≤ 65535 → (Ex.num (a % m)).Ok sc (k + 1) := fun a m k h1 h2 => by
    have e0 := Int.emod_nonneg a (by omega : m ≠ 0)
    have e1 := Int.emod_lt_of_pos a h1
    exact ⟨e0, by omega⟩
  refine ⟨_, rfl, rfl, _, rfl, ite2 (fun _ => ?_) (fun _ => ?_)⟩
  · refine ⟨seven, fun p2 hp2 => ?_⟩
    have m2 := same_new hp2 (.tup [.str "+", .str "-", .str "*", .str "/", .str "mod", .str "<", .str "="])
    have hA2 := hA1.mono m2
    have d2 := dp_mono m2 _ _ d1
    obtain ⟨o, ho, eo⟩ := pick_op (r := r / 3)
    refine ⟨_, rfl, _, _, rfl, rfl, ⟨by decide, by decide⟩, _, _, rfl, rfl, (by show (0 : Int) < 7; decide), p2, _, _, _, rfl, rfl, SqT.of upd_same, eo, ?_⟩
    refine ⟨_, rfl, _, rfl, _, _, rfl, rfl, ⟨by decide, by decide⟩, _, _, rfl, rfl, (by show (0 : Int) < 4; decide), two, fun p3 hp3 => ?_⟩
    have m3 := same_new hp3 (.tup [.str "number", .int (r / 21 % 4)])
    have d3 := dp_num (K := K) hp3 (r / 21 % 4)
    refine ⟨three, fun p4 hp4 => ?_⟩
    refine q _ (.op o (.loc x) (.num (r / 21 % 4))) _ (m1.trans (m2.trans (m3.trans (same_new hp4 _)))) ?_ ⟨ho, hx, numok _ _ 0 (by decide) (by decide)⟩
    show Dp K _ _ (.tuple [.str o, (Ex.loc x).d, (Ex.num (r / 21 % 4)).d])
    exact dp_tup hp4 (.cons (.str _) (.cons (dp_mono m3 _ _ d2) (.cons d3 .nil)))
  -- an operator on numbers
  refine ⟨_, rfl, rfl, _, rfl, and_if ?_ fun _ rest => ?_⟩
  rotate_left
  · refine ⟨_, rfl, _, _, rfl, rfl, (by show (0 : Int) < 3; decide), rfl, _, rfl, ite2 (fun c => ?_) (fun _ => rest)⟩
    refine ⟨seven, fun p2 hp2 => ?_⟩
    have m2 := same_new hp2 (.tup [.str "+", .str "-", .str "*", .str "/", .str "mod", .str "<", .str "="])
    obtain ⟨o, ho, eo⟩ := pick_op (r := r / 3)
    refine ⟨_, rfl, _, _, rfl, rfl, ⟨by decide, by decide⟩, _, _, rfl, rfl, (by show (0 : Int) < 7; decide), p2, _, _, _, rfl, rfl, SqT.of upd_same, eo, ?_⟩
    refine ⟨_, rfl, _, rfl, _, _, rfl, rfl, ⟨by decide, by decide⟩, _, _, rfl, rfl, (by show (0 : Int) < 3; decide), two, fun p3 hp3 => ?_⟩
    have m3 := same_new hp3 (.tup [.str "number", .int (r / 21 % 3)])
    have d3 := dp_num (K := K) hp3 (r / 21 % 3)
    refine ⟨_, rfl, _, _, rfl, rfl, ⟨by decide, by decide⟩, _, _, rfl, rfl, (by show (0 : Int) < 4; decide), two, fun p4 hp4 => ?_⟩
    have m4 := same_new hp4 (.tup [.str "number", .int (r / 63 % 4)])
    have d4 := dp_num (K := K) hp4 (r / 63 % 4)
    refine ⟨three, fun p5 hp5 => ?_⟩
    refine q _ (.op o (.num (r / 21 % 3)) (.num (r / 63 % 4))) _ (m1.trans (m2.trans (m3.trans (m4.trans (same_new hp5 _))))) ?_ ⟨ho, numok _ _ 0 (by decide) (by decide), numok _ _ 0 (by decide) (by decide)⟩
    show Dp K _ _ (.tuple [.str o, (Ex.num (r / 21 % 3)).d, (Ex.num (r / 63 % 4)).d])
    exact dp_tup hp5 (.cons (.str _) (.cons (dp_mono m4 _ _ d3) (.cons d4 .nil)))
  -- a number
  refine ⟨_, rfl, _, _, rfl, rfl, (by show (0 : Int) < 4; decide), two, fun p2 hp2 => ?_⟩
  refine q _ (.num (r % 4)) _ (m1.trans (same_new hp2 _)) ?_ (numok _ _ 1 (by decide) (by decide))
  unfold Ex.d
  exact dp_tup hp2 (.cons (.str _) (.cons (.int _) .nil))
theorem ok_value (T : Txt K mg) : FnOk P w K mg base CX0 2 T.a_law_value T.fd_law_value ["cell", "names", "variables", "tables"] (spSide K 3) := by
  have G_law_side : FnOk P w K mg base CX0 1 T.a_law_side T.fd_law_side ["code", "names", "variables", "tables"] (spSide K 2) := ok_side T
  refine T.F_law_value.ok sc_law_value (fun vs H Q E h => ?_) (fun cdv A outer s H vs Q E hr h => ?_)
  · obtain ⟨c, na, va, ta, s, rfl, _⟩ := h
    rfl
  obtain ⟨code, na, va, ta, sc, rfl, hA, q⟩ := h
  refine ⟨_, (pss_cons (ps_set (i := 4) sc_law_value.nd rfl (Or.inl rfl) (pe_op op_mod (pe_callTy call_int1 (by rfl) T.z_int (by decide +kernel) (pa_cons (pv 0) pa_nil)) pe_int))
    (pss_cons (ps_set (i := 5) sc_law_value.nd rfl (Or.inl rfl) (pe_op op_fdivW (pe_callTy call_int1 (by rfl) T.z_int (by decide +kernel) (pa_cons (pv 0) pa_nil)) pe_int))
    (pss_cons (ps_if (pt_cmpR op_lt (pv 4) pe_int (nomark _))
      (pss_one (ps_ret (pe_tup (pa_cons pe_str (pa_cons (pe_ix ix_tup (pv 1) (pe_op op_mod (pv 5) (pe_callB call_len_seq (by rfl) T.z_len (by decide +kernel) (pa_cons (pv 1) pa_nil))) (fun _ _ => rfl)) pa_nil)))))
      pss_nil)
    (pss_cons (ps_if (PW.pt (pw_and (pt_cmpR op_eq (pv 4) pe_int (nomark _)) (pw_and1 (pt_cmpR op_gt (pe_callB call_len_seq (by rfl) T.z_len (by decide +kernel) (pa_cons (pv 2) pa_nil)) pe_int (nomark _)))))
      (pss_one (ps_ret (pe_tup (pa_cons pe_str (pa_cons (pe_ix ix_list (pv 2) (pe_op op_mod (pv 5) (pe_callB call_len_seq (by rfl) T.z_len (by decide +kernel) (pa_cons (pv 2) pa_nil))) (fun _ _ => rfl)) pa_nil)))))
      pss_nil)
    (pss_cons (ps_if (PW.pt (pw_and (pt_cmpR op_eq (pv 4) pe_int (nomark _)) (pw_and1 (pt_cmpR op_gt (pe_callB call_len_seq (by rfl) T.z_len (by decide +kernel) (pa_cons (pv 3) pa_nil)) pe_int (nomark _)))))
      (pss_cons (ps_set (i := 6) sc_law_value.nd rfl (Or.inl rfl) (pe_call G_law_side (hr.mono (by decide)) rfl T.g_law_side T.k_law_side T.b_law_side .nil pass0 (pa_cons (pe_op op_fdivW (pv 5) pe_int) (pa_cons (pv 1) (pa_cons (pv 2) (pa_cons (pv 3) pa_nil))))))
    (pss_one (ps_ret (pe_tup (pa_cons (pe_ix ix_tup (pe_tup (pa_cons pe_str (pa_cons pe_str pa_nil))) (pe_op op_mod (pv 5) pe_int) (fun _ _ => rfl)) (pa_cons (pe_ix ix_list (pv 3) (pe_op op_mod (pe_op op_fdivW (pv 5) pe_int) (pe_callB call_len_seq (by rfl) T.z_len (by decide +kernel) (pa_cons (pv 3) pa_nil))) (fun _ _ => rfl)) (pa_cons (pv 6) pa_nil)))))))
      pss_nil)
    (pss_cons (ps_set (i := 7) sc_law_value.nd rfl (Or.inl rfl) (pe_ix ix_tup (pe_tup (pa_cons pe_str (pa_cons pe_str (pa_cons pe_str (pa_cons pe_str (pa_cons pe_str (pa_cons pe_str (pa_cons pe_str pa_nil)))))))) (pe_op op_mod (pv 5) pe_int) (fun _ _ => rfl)))
    (pss_cons (ps_if (pt_cmpR op_eq (pv 4) pe_int (nomark _))
      (pss_one (ps_ret (pe_tup (pa_cons (pv 7) (pa_cons (pe_call G_law_side (hr.mono (by decide)) rfl T.g_law_side T.k_law_side T.b_law_side .nil pass0 (pa_cons (pe_op op_fdivW (pv 5) pe_int) (pa_cons (pv 1) (pa_cons (pv 2) (pa_cons (pv 3) pa_nil))))) (pa_cons (pe_call G_law_side (hr.mono (by decide)) rfl T.g_law_side T.k_law_side T.b_law_side .nil pass0 (pa_cons (pe_op op_fdivW (pv 5) pe_int) (pa_cons (pv 1) (pa_cons (pv 2) (pa_cons (pv 3) pa_nil))))) pa_nil))))))
      pss_nil)
    (pss_cons (ps_if (pt_cmpR op_eq (pv 4) pe_int (nomark _))
      (pss_cons (ps_set (i := 8) sc_law_value.nd rfl (Or.inl rfl) (pe_tup (pa_cons pe_str (pa_cons (pe_op op_mod (pe_op op_fdivW (pv 5) pe_int) pe_int) pa_nil))))
    (pss_one (ps_ret (pe_tup (pa_cons (pv 7) (pa_cons (pv 8) (pa_cons (pe_ix ix_tup (pe_tup (pa_cons (pe_tup (pa_cons pe_str (pa_cons (pe_op op_mod (pe_op op_fdivW (pv 5) pe_int) pe_int) pa_nil))) (pa_cons (pe_call G_law_side (hr.mono (by decide)) rfl T.g_law_side T.k_law_side T.b_law_side .nil pass0 (pa_cons (pe_op op_fdivW (pv 5) pe_int) (pa_cons (pv 1) (pa_cons (pv 2) (pa_cons (pv 3) pa_nil))))) pa_nil))) (pe_op op_mod (pe_op op_fdivW (pv 5) pe_int) pe_int) (fun _ _ => rfl)) pa_nil)))))))
      pss_nil)
    (pss_one (ps_ret (pe_tup (pa_cons pe_str (pa_cons (pe_ix ix_tup (pe_tup (pa_cons (pe_op op_mod (pv 5) pe_int) (pa_cons (pe_op op_mod (pv 5) pe_int) (pa_cons (pe_op op_mod (pv 5) pe_int) (pa_cons (pe_op op_sub pe_int (pe_op op_mod (pv 5) pe_int)) pa_nil))))) (pe_op op_mod (pe_op op_fdivW (pv 5) pe_int) pe_int) (fun _ _ => rfl)) pa_nil))))))))))))), ?_⟩
  have two : (2 : Nat) ≤ sizeLine := by decide
  have three : (3 : Nat) ≤ sizeLine := by decide
  have four : (4 : Nat) ≤ sizeLine := by decide
  have seven : (7 : Nat) ≤ sizeLine := by decide
  refine ⟨_, rfl, .inl ⟨_, rfl, _, _, rfl, rfl, (by show (0 : Int) < 8; decide), ?_⟩⟩
  refine ⟨_, rfl, .inl ⟨_, rfl, _, _, rfl, rfl, ⟨by decide, by decide⟩, ?_⟩⟩
  dsimp only
  generalize code / 8 = r
  generalize code % 8 = pk
  obtain ⟨x, hx, ex⟩ := pick_mem (r := r) hA.n0
  -- a local
  refine ⟨_, rfl, _, _, rfl, rfl, _, rfl, ite2 (fun c => ?_) (fun c1 => ?_)⟩
  · refine ⟨_, rfl, _, rfl, _, rfl, na, _, rfl, .inr hA.n, _, _, rfl, rfl, len_pos hA.n0, na, _, _, _, rfl, rfl, hA.n, ex, two, fun p hp => ?_⟩
    exact q _ (.loc x) _ (same_new hp _) (dp_loc hp x) (show x ∈ sc.locs from hx)
  -- a variable
  refine ⟨_, rfl, rfl, _, rfl, and_if ?_ fun _ rest => ?_⟩
  rotate_left
  · refine ⟨_, rfl, va, _, rfl, .inl hA.v, _, _, rfl, rfl, _, rfl, ite2 (fun c => ?_) (fun _ => rest)⟩
    have v0 := ne_of_len c
    obtain ⟨y, hy, ey⟩ := pick_mem (r := r) v0
    refine ⟨_, rfl, _, rfl, _, rfl, va, _, rfl, .inl hA.v, _, _, rfl, rfl, len_pos v0, va, _, _, _, rfl, rfl, hA.v, ey, two, fun p2 hp2 => ?_⟩
    exact q _ (.var y) _ (same_new hp2 _) (dp_var hp2 y) (show y ∈ sc.vars from hy)
  -- a look at a table
  refine ⟨_, rfl, rfl, _, rfl, and_if ?_ fun _ rest => ?_⟩
  rotate_left
  · refine ⟨_, rfl, ta, _, rfl, .inl hA.t, _, _, rfl, rfl, _, rfl, ite2 (fun c => ?_) (fun _ => rest)⟩
    have t0 := ne_of_len c
    obtain ⟨y, hy, ey⟩ := pick_mem (r := r / 2) t0
    refine ⟨_, rfl, _, _, rfl, rfl, ⟨by decide, by decide⟩, _, rfl, _, rfl, _, rfl, _, na, va, ta, sc, rfl, hA, fun v e H1 m1 d1 o1 => ?_⟩
    have hA1 := hA.mono m1
    refine ⟨two, fun p2 hp2 => ?_⟩
    have m2 := same_new hp2 (.tup [.str "has", .str "cell"])
    have hA2 := hA1.mono m2
    have d2 := dp_mono m2 _ _ d1
    rcases pick_two (a := V.str "has") (b := V.str "cell") (r := r) with e2 | e2
    · refine ⟨_, rfl, _, _, rfl, rfl, (by show (0 : Int) < 2; decide), p2, _, _, _, rfl, rfl, SqT.of upd_same, e2, ?_⟩
      refine ⟨_, rfl, _, rfl, _, _, rfl, rfl, ⟨by decide, by decide⟩, _, rfl, ta, _, rfl, .inl hA2.t, _, _, rfl, rfl, len_pos t0, ta, _, _, _, rfl, rfl, hA2.t, ey, _, rfl, three, fun p4 hp4 => ?_⟩
      exact q _ (.has y e) _ (m1.trans (m2.trans (same_new hp4 _))) (dp_has hp4 y d2) ⟨hy, o1⟩
    · refine ⟨_, rfl, _, _, rfl, rfl, (by show (0 : Int) < 2; decide), p2, _, _, _, rfl, rfl, SqT.of upd_same, e2, ?_⟩
      refine ⟨_, rfl, _, rfl, _, _, rfl, rfl, ⟨by decide, by decide⟩, _, rfl, ta, _, rfl, .inl hA2.t, _, _, rfl, rfl, len_pos t0, ta, _, _, _, rfl, rfl, hA2.t, ey, _, rfl, three, fun p4 hp4 => ?_⟩
      exact q _ (.cell y e) _ (m1.trans (m2.trans (same_new hp4 _))) (dp_cell hp4 y d2) ⟨hy, o1⟩
  -- the sign
  refine ⟨seven, fun p2 hp2 => ?_⟩
  have m2 := same_new hp2 (.tup [.str "+", .str "-", .str "*", .str "/", .str "mod", .str "<", .str "="])
  have hA2 := hA.mono m2
  obtain ⟨o, ho, eo⟩ := pick_op (r := r)
  refine ⟨_, rfl, _, _, rfl, rfl, (by show (0 : Int) < 7; decide), p2, _, _, _, rfl, rfl, SqT.of upd_same, eo, ?_⟩
  revert m2 hA2
  generalize upd H p2 (.tup [.str "+", .str "-", .str "*", .str "/", .str "mod", .str "<", .str "="]) = H2
  intro m2 hA2
  -- two sides
  refine ⟨_, rfl, rfl, _, rfl, ite2 (fun _ => ?_) (fun _ => ?_)⟩
  · refine ⟨_, rfl, _, rfl, _, _, rfl, rfl, ⟨by decide, by decide⟩, _, rfl, _, rfl, _, rfl, _, na, va, ta, sc, rfl, hA2, fun v e H3 m3 d3 o3 => ?_⟩
    refine ⟨_, rfl, _, _, rfl, rfl, ⟨by decide, by decide⟩, _, rfl, _, rfl, _, rfl, _, na, va, ta, sc, rfl, hA2.mono m3, fun v' e' H4 m4 d4 o4 => ?_⟩
    refine ⟨three, fun p5 hp5 => ?_⟩
    exact q _ (.op o e e') _ (m2.trans (m3.trans (m4.trans (same_new hp5 _)))) (dp_op hp5 o (dp_mono m4 _ _ d3) d4) ⟨ho, o3, o4⟩
  -- a number on the left
  refine ⟨_, rfl, rfl, _, rfl, ite2 (fun _ => ?_) (fun _ => ?_)⟩
  · refine ⟨_, rfl, _, _, rfl, rfl, ⟨by decide, by decide⟩, _, _, rfl, rfl, (by show (0 : Int) < 3; decide), two, fun p3 hp3 => ?_⟩
    have m3 := same_new hp3 (.tup [.str "number", .int (r / 7 % 3)])
    have d3 := dp_num (K := K) hp3 (r / 7 % 3)
    have hA3 := hA2.mono m3
    revert m3 d3 hA3
    dsimp only
    generalize upd H2 p3 (.tup [.str "number", .int (r / 7 % 3)]) = H3
    intro m3 d3 hA3
    refine ⟨_, rfl, _, rfl, _, rfl, _, _, rfl, rfl, ⟨by decide, by decide⟩, _, _, rfl, rfl, (by show (0 : Int) < 4; decide), two, fun p4 hp4 => ?_⟩
    have m4 := same_new hp4 (.tup [.str "number", .int (r / 21 % 4)])
    have d4 := dp_num (K := K) hp4 (r / 21 % 4)
    have hA4 := hA3.mono m4
    have d34 := dp_mono m4 _ _ d3
    revert m4 d4 hA4 d34
    dsimp only
    generalize upd H3 p4 (.tup [.str "number", .int (r / 21 % 4)]) = H4
    intro m4 d4 hA4 d34
    refine ⟨_, rfl, _, _, rfl, rfl, ⟨by decide, by decide⟩, _, rfl, _, rfl, _, rfl, _, na, va, ta, sc, rfl, hA4, fun v' e' H5 m5 d5 o5 => ?_⟩
    refine ⟨two, fun p6 hp6 => ?_⟩
    have m6 := same_new hp6 (.tup [.ref p4, v'])
    have m56 := m5.trans m6
    have mm := m2.trans (m3.trans (m4.trans m56))
    rcases pick_two (a := V.ref p4) (b := v') (r := r / 5) with e2 | e2
    · refine ⟨_, rfl, _, _, rfl, rfl, ⟨by decide, by decide⟩, _, _, rfl, rfl, (by show (0 : Int) < 2; decide), p6, _, _, _, rfl, rfl, SqT.of upd_same, e2, three, fun p7 hp7 => ?_⟩
      exact q _ (.op o (.num (r / 7 % 3)) (.num (r / 21 % 4))) _ (mm.trans (same_new hp7 _)) (dp_op hp7 o (dp_mono m56 _ _ d34) (dp_mono m56 _ _ d4)) ⟨ho, num_ok _ _ 1 (by decide) (by decide), num_ok _ _ 1 (by decide) (by decide)⟩
    · refine ⟨_, rfl, _, _, rfl, rfl, ⟨by decide, by decide⟩, _, _, rfl, rfl, (by show (0 : Int) < 2; decide), p6, _, _, _, rfl, rfl, SqT.of upd_same, e2, three, fun p7 hp7 => ?_⟩
      exact q _ (.op o (.num (r / 7 % 3)) e') _ (mm.trans (same_new hp7 _)) (dp_op hp7 o (dp_mono m56 _ _ d34) (dp_mono m6 _ _ d5)) ⟨ho, num_ok _ _ 1 (by decide) (by decide), o5⟩
  -- a number
  refine ⟨_, rfl, _, _, rfl, rfl, (by show (0 : Int) < 4; decide), _, rfl, _, _, rfl, rfl, (by show (0 : Int) < 4; decide), _, rfl, _, _, rfl, rfl, (by show (0 : Int) < 4; decide), _, rfl, _, _, rfl, rfl, (by show (0 : Int) < 3; decide), _, _, rfl, rfl, four, fun p3 hp3 => ?_⟩
  have m3 := same_new hp3 (.tup [.int (r % 4), .int (r % 4), .int (r % 4), .int (65535 - r % 3)])
  obtain ⟨z, hz, ez⟩ := pick_disp (vs := [.int (r % 4), .int (r % 4), .int (r % 4), .int (65535 - r % 3)]) (r := r / 4) (n := 4) rfl (by decide)
  have z4 : ∃ n : Int, z = .int n ∧ 0 ≤ n ∧ n ≤ 65535 := by
    have a0 := Int.emod_nonneg r (by decide : (4 : Int) ≠ 0)
    have a1 := Int.emod_lt_of_pos r (by decide : (0 : Int) < 4)
    have b0 := Int.emod_nonneg r (by decide : (3 : Int) ≠ 0)
    have b1 := Int.emod_lt_of_pos r (by decide : (0 : Int) < 3)
    simp only [List.mem_cons, List.not_mem_nil, or_false] at hz
    rcases hz with rfl | rfl | rfl | rfl
    · exact ⟨_, rfl, a0, by omega⟩
    · exact ⟨_, rfl, a0, by omega⟩
    · exact ⟨_, rfl, a0, by omega⟩
    · exact ⟨_, rfl, by omega, by omega⟩
  obtain ⟨n, rfl, n0, n1⟩ := z4
  refine ⟨_, rfl, _, _, rfl, rfl, ⟨by decide, by decide⟩, _, _, rfl, rfl, (by show (0 : Int) < 4; decide), p3, _, _, _, rfl, rfl, SqT.of upd_same, ez, two, fun p4 hp4 => ?_⟩
  exact q _ (.num n) _ (m2.trans (m3.trans (same_new hp4 _))) (dp_num hp4 n) ⟨n0, n1⟩
section
variable {H : Hp} {p : Addr}
theorem dp_set (hp : H p = none) (x : Str) {v : V} {e : Ex} (d : Dp K H v e.d) : Dp K (upd H p (.tup [.str "set", .str x, v])) (.ref p) (Stm.set x e).d := by
  unfold Stm.d; exact dp_tup hp (.cons (.str _) (.cons (.str _) (.cons d .nil)))
theorem dp_let (hp : H p = none) (x : Str) {v : V} {e : Ex} (d : Dp K H v e.d) : Dp K (upd H p (.tup [.str "let", .str x, v])) (.ref p) (Stm.lt x e).d := by
  unfold Stm.d; exact dp_tup hp (.cons (.str _) (.cons (.str _) (.cons d .nil)))
theorem dp_draw (hp : H p = none) (x : Str) (n : Int) : Dp K (upd H p (.tup [.str "draw", .str x, .int n])) (.ref p) (Stm.draw x n).d := by
  unfold Stm.d; exact dp_tup hp (.cons (.str _) (.cons (.str _) (.cons (.int _) .nil)))
theorem dp_put (hp : H p = none) (t : Str) {v u : V} {e f : Ex} (d : Dp K H v e.d) (d' : Dp K H u f.d) : Dp K (upd H p (.tup [.str "put", .str t, v, u])) (.ref p) (Stm.put t e f).d := by
  unfold Stm.d; exact dp_tup hp (.cons (.str _) (.cons (.str _) (.cons d (.cons d' .nil))))
theorem dp_lot (hp : H p = none) (l o : Str) {v : V} {e : Ex} (d : Dp K H v e.d) : Dp K (upd H p (.tup [.str "lot", .str l, .str o, v])) (.ref p) (Stm.lot l o e).d := by
  unfold Stm.d; exact dp_tup hp (.cons (.str _) (.cons (.str _) (.cons (.str _) (.cons d .nil))))
theorem dp_if (hp : H p = none) {v a b : V} {e : Ex} {x y : Blk} (d : Dp K H v e.d) (da : Dp K H a x.d) (db : Dp K H b y.d) : Dp K (upd H p (.tup [.str "if", v, a, b])) (.ref p) (Stm.ite e x y).d := by
  unfold Stm.d; exact dp_tup hp (.cons (.str _) (.cons d (.cons da (.cons db .nil))))
theorem dp_bad (hp : H p = none) : Dp K (upd H p (.tup [.str "bad"])) (.ref p) Stm.bad.d := by
  unfold Stm.d; exact dp_tup hp (.cons (.str _) .nil)
theorem dp_after (hp : H p = none) {a : V} {x : Blk} (da : Dp K H a x.d) : Dp K (upd H p (.tup [.str "after", a])) (.ref p) (Stm.after x).d := by
  unfold Stm.d; exact dp_tup hp (.cons (.str _) (.cons da .nil))
theorem dp_b0 (hp : H p = none) : Dp K (upd H p (.tup [])) (.ref p) Blk.nil.d := by
  show Dp K _ _ (.tuple Blk.nil.ds); rw [Blk.ds]; exact dp_tup hp .nil
theorem dp_b1 (hp : H p = none) {v : V} {x : Stm} (d : Dp K H v x.d) : Dp K (upd H p (.tup [v])) (.ref p) (Blk.cons x .nil).d := by
  show Dp K _ _ (.tuple (Blk.cons x .nil).ds); rw [Blk.ds, Blk.ds]; exact dp_tup hp (.cons d .nil)
theorem dp_b2 (hp : H p = none) {v u : V} {x y : Stm} (d : Dp K H v x.d) (d' : Dp K H u y.d) : Dp K (upd H p (.tup [v, u])) (.ref p) (Blk.cons x (.cons y .nil)).d := by
  show Dp K _ _ (.tuple (Blk.cons x (.cons y .nil)).ds); rw [Blk.ds, Blk.ds, Blk.ds]; exact dp_tup hp (.cons d (.cons d' .nil))
end
theorem draw5 {r : Int} : ∃ n : Int, atI ([.int 2, .int 3, .int 4, .int 2, .int 1] : List V) (r % 5) = some (.int n) ∧ 1 ≤ n ∧ n ≤ 4 := by
  obtain ⟨z, hz, ez⟩ := pick_disp (vs := [.int 2, .int 3, .int 4, .int 2, .int 1]) (r := r) (n := 5) rfl (by decide)
  simp only [List.mem_cons, List.not_mem_nil, or_false] at hz
  rcases hz with rfl | rfl | rfl | rfl | rfl
  · exact ⟨_, ez, by decide, by decide⟩
  · exact ⟨_, ez, by decide, by decide⟩
  · exact ⟨_, ez, by decide, by decide⟩
  · exact ⟨_, ez, by decide, by decide⟩
  · exact ⟨_, ez, by decide, by decide⟩
theorem ok_plain (T : Txt K mg) : FnOk P w K mg base CX0 3 T.a_law_plain T.fd_law_plain ["cell", "names", "variables", "tables", "lots"] (spPlain K) := by
  have G_law_side : FnOk P w K mg base CX0 1 T.a_law_side T.fd_law_side ["code", "names", "variables", "tables"] (spSide K 2) := ok_side T
  have G_law_value : FnOk P w K mg base CX0 2 T.a_law_value T.fd_law_value ["cell", "names", "variables", "tables"] (spSide K 3) := ok_value T
  refine T.F_law_plain.ok sc_law_plain (fun vs H Q E h => ?_) (fun cdv A outer s H vs Q E hr h => ?_)
  · obtain ⟨c, na, va, ta, la, s, rfl, _⟩ := h
    rfl
  obtain ⟨code, na, va, ta, la, sc, rfl, hA, hL, q⟩ := h
  refine ⟨_, (pss_cons (ps_set (i := 5) sc_law_plain.nd rfl (Or.inl rfl) (pe_op op_mod (pe_callTy call_int1 (by rfl) T.z_int (by decide +kernel) (pa_cons (pv 0) pa_nil)) pe_int))
    (pss_cons (ps_set (i := 6) sc_law_plain.nd rfl (Or.inl rfl) (pe_op op_fdivW (pe_callTy call_int1 (by rfl) T.z_int (by decide +kernel) (pa_cons (pv 0) pa_nil)) pe_int))
    (pss_cons (ps_set (i := 7) sc_law_plain.nd rfl (Or.inl rfl) (pe_call G_law_value (hr.mono (by decide)) rfl T.g_law_value T.k_law_value T.b_law_value .nil pass0 (pa_cons (pe_op op_fdivW (pv 6) pe_int) (pa_cons (pv 1) (pa_cons (pv 2) (pa_cons (pv 3) pa_nil))))))
    (pss_cons (ps_if (pt_cmpR op_lt (pv 5) pe_int (nomark _))
      (pss_one (ps_ret (pe_tup (pa_cons pe_str (pa_cons (pe_ix ix_tup (pv 1) (pe_op op_mod (pv 6) (pe_callB call_len_seq (by rfl) T.z_len (by decide +kernel) (pa_cons (pv 1) pa_nil))) (fun _ _ => rfl)) (pa_cons (pe_ix ix_tup (pe_tup (pa_cons pe_int (pa_cons pe_int (pa_cons pe_int (pa_cons pe_int (pa_cons pe_int pa_nil)))))) (pe_op op_mod (pe_op op_fdivW (pv 6) pe_int) pe_int) (fun _ _ => rfl)) pa_nil))))))
      pss_nil)
    (pss_cons (ps_if (PW.pt (pw_and (pt_cmpR op_eq (pv 5) pe_int (nomark _)) (pw_and1 (pt_cmpR op_gt (pe_callB call_len_seq (by rfl) T.z_len (by decide +kernel) (pa_cons (pv 2) pa_nil)) pe_int (nomark _)))))
      (pss_one (ps_ret (pe_tup (pa_cons pe_str (pa_cons (pe_ix ix_list (pv 2) (pe_op op_mod (pv 6) (pe_callB call_len_seq (by rfl) T.z_len (by decide +kernel) (pa_cons (pv 2) pa_nil))) (fun _ _ => rfl)) (pa_cons (pv 7) pa_nil))))))
      pss_nil)
    (pss_cons (ps_if (PW.pt (pw_and (pt_cmpR op_eq (pv 5) pe_int (nomark _)) (pw_and1 (pt_cmpR op_gt (pe_callB call_len_seq (by rfl) T.z_len (by decide +kernel) (pa_cons (pv 3) pa_nil)) pe_int (nomark _)))))
      (pss_cons (ps_set (i := 8) sc_law_plain.nd rfl (Or.inl rfl) (pe_call G_law_side (hr.mono (by decide)) rfl T.g_law_side T.k_law_side T.b_law_side .nil pass0 (pa_cons (pe_op op_fdivW (pv 6) pe_int) (pa_cons (pv 1) (pa_cons (pv 2) (pa_cons (pv 3) pa_nil))))))
    (pss_one (ps_ret (pe_tup (pa_cons pe_str (pa_cons (pe_ix ix_list (pv 3) (pe_op op_mod (pe_op op_fdivW (pv 6) pe_int) (pe_callB call_len_seq (by rfl) T.z_len (by decide +kernel) (pa_cons (pv 3) pa_nil))) (fun _ _ => rfl)) (pa_cons (pe_ix ix_tup (pe_tup (pa_cons (pe_tup (pa_cons pe_str (pa_cons (pe_ix ix_tup (pv 1) (pe_op op_mod (pv 6) (pe_callB call_len_seq (by rfl) T.z_len (by decide +kernel) (pa_cons (pv 1) pa_nil))) (fun _ _ => rfl)) pa_nil))) (pa_cons (pv 8) pa_nil))) (pe_op op_mod (pe_op op_fdivW (pv 6) pe_int) pe_int) (fun _ _ => rfl)) (pa_cons (pv 7) pa_nil))))))))
      pss_nil)
    (pss_cons (ps_if (PW.pt (pw_and (pt_cmpR op_eq (pv 5) pe_int (nomark _)) (pw_and1 (pt_cmpR op_gt (pe_callB call_len_seq (by rfl) T.z_len (by decide +kernel) (pa_cons (pv 4) pa_nil)) pe_int (nomark _)))))
      (pss_cons (ps_set (i := 8) sc_law_plain.nd rfl (Or.inl rfl) (pe_call G_law_side (hr.mono (by decide)) rfl T.g_law_side T.k_law_side T.b_law_side .nil pass0 (pa_cons (pe_op op_fdivW (pv 6) pe_int) (pa_cons (pv 1) (pa_cons (pv 2) (pa_cons (pv 3) pa_nil))))))
    (pss_cons (ps_set (i := 9) sc_law_plain.nd rfl (Or.inl rfl) (pe_ix ix_tup (pe_tup (pa_cons (pe_tup (pa_cons pe_str (pa_cons (pe_ix ix_tup (pv 1) (pe_op op_mod (pe_op op_fdivW (pv 6) pe_int) (pe_callB call_len_seq (by rfl) T.z_len (by decide +kernel) (pa_cons (pv 1) pa_nil))) (fun _ _ => rfl)) pa_nil))) (pa_cons (pv 8) pa_nil))) (pe_op op_mod (pe_op op_fdivW (pv 6) pe_int) pe_int) (fun _ _ => rfl)))
    (pss_one (ps_ret (pe_tup (pa_cons pe_str (pa_cons (pe_ix ix_tup (pv 1) (pe_op op_mod (pv 6) (pe_callB call_len_seq (by rfl) T.z_len (by decide +kernel) (pa_cons (pv 1) pa_nil))) (fun _ _ => rfl)) (pa_cons (pe_ix ix_list (pv 4) (pe_op op_mod (pe_op op_fdivW (pv 6) pe_int) (pe_callB call_len_seq (by rfl) T.z_len (by decide +kernel) (pa_cons (pv 4) pa_nil))) (fun _ _ => rfl)) (pa_cons (pv 9) pa_nil)))))))))
      pss_nil)
    (pss_one (ps_ret (pe_tup (pa_cons pe_str (pa_cons (pe_ix ix_tup (pv 1) (pe_op op_mod (pv 6) (pe_callB call_len_seq (by rfl) T.z_len (by decide +kernel) (pa_cons (pv 1) pa_nil))) (fun _ _ => rfl)) (pa_cons (pv 7) pa_nil))))))))))))), ?_⟩
  have two : (2 : Nat) ≤ sizeLine := by decide
  have three : (3 : Nat) ≤ sizeLine := by decide
  have four : (4 : Nat) ≤ sizeLine := by decide
  have five : (5 : Nat) ≤ sizeLine := by decide
  refine ⟨_, rfl, .inl ⟨_, rfl, _, _, rfl, rfl, (by show (0 : Int) < 7; decide), ?_⟩⟩
  refine ⟨_, rfl, .inl ⟨_, rfl, _, _, rfl, rfl, ⟨by decide, by decide⟩, ?_⟩⟩
  dsimp only
  generalize code / 7 = r
  generalize code % 7 = pk
  refine ⟨_, rfl, _, _, rfl, rfl, ⟨by decide, by decide⟩, _, rfl, _, rfl, _, rfl, _, na, va, ta, sc, rfl, hA, fun v e H1 m1 d1 o1 => ?_⟩
  have hA1 := hA.mono m1
  have hL1 := m1.seq hL
  obtain ⟨x, hx, ex⟩ := pick_mem (r := r) hA.n0
  -- draw
  refine ⟨_, rfl, _, _, rfl, rfl, _, rfl, ite2 (fun c => ?_) (fun c1 => ?_)⟩
  · obtain ⟨n, en, n1, n4⟩ := draw5 (r := r / 3)
    refine ⟨_, rfl, _, rfl, _, rfl, na, _, rfl, .inr hA1.n, _, _, rfl, rfl, len_pos hA.n0, na, _, _, _, rfl, rfl, hA1.n, ex, five, fun p hp => ?_⟩
    refine ⟨_, rfl, _, _, rfl, rfl, ⟨by decide, by decide⟩, _, _, rfl, rfl, (by show (0 : Int) < 5; decide), p, _, _, _, rfl, rfl, SqT.of upd_same, en, three, fun p2 hp2 => ?_⟩
    refine q _ (.draw x n) _ (m1.trans ((same_new hp _).trans (same_new hp2 _))) (dp_draw hp2 x n) ?_
    unfold Stm.Ok
    exact ⟨hx, n1, by omega⟩
  -- set
  refine ⟨_, rfl, rfl, _, rfl, and_if ?_ fun _ rest => ?_⟩
  rotate_left
  · refine ⟨_, rfl, va, _, rfl, .inl hA1.v, _, _, rfl, rfl, _, rfl, ite2 (fun c => ?_) (fun _ => rest)⟩
    have v0 := ne_of_len c
    obtain ⟨y, hy, ey⟩ := pick_mem (r := r) v0
    refine ⟨_, rfl, _, rfl, _, rfl, va, _, rfl, .inl hA1.v, _, _, rfl, rfl, len_pos v0, va, _, _, _, rfl, rfl, hA1.v, ey, _, rfl, three, fun p2 hp2 => ?_⟩
    refine q _ (.set y e) _ (m1.trans (same_new hp2 _)) (dp_set hp2 y d1) ?_
    unfold Stm.Ok
    exact ⟨hy, o1⟩
  -- put
  refine ⟨_, rfl, rfl, _, rfl, and_if ?_ fun _ rest => ?_⟩
  rotate_left
  · refine ⟨_, rfl, ta, _, rfl, .inl hA1.t, _, _, rfl, rfl, _, rfl, ite2 (fun c => ?_) (fun _ => rest)⟩
    have t0 := ne_of_len c
    obtain ⟨y, hy, ey⟩ := pick_mem (r := r / 5) t0
    refine ⟨_, rfl, _, _, rfl, rfl, ⟨by decide, by decide⟩, _, rfl, _, rfl, _, rfl, _, na, va, ta, sc, rfl, hA1, fun v2 e2 H2 m2 d2 o2 => ?_⟩
    have hA2 := hA1.mono m2
    refine ⟨_, rfl, _, rfl, _, _, rfl, rfl, ⟨by decide, by decide⟩, _, rfl, ta, _, rfl, .inl hA2.t, _, _, rfl, rfl, len_pos t0, ta, _, _, _, rfl, rfl, hA2.t, ey, ?_⟩
    refine ⟨_, rfl, _, rfl, _, rfl, na, _, rfl, .inr hA2.n, _, _, rfl, rfl, len_pos hA.n0, na, _, _, _, rfl, rfl, hA2.n, ex, two, fun p3 hp3 => ?_⟩
    have m3 := same_new hp3 (.tup [.str "local", .str x])
    have d3 := dp_loc (K := K) hp3 x
    refine ⟨_, rfl, two, fun p4 hp4 => ?_⟩
    have m4 := same_new hp4 (.tup [.ref p3, v2])
    have mm := m2.trans (m3.trans m4)
    rcases pick_two (a := V.ref p3) (b := v2) (r := r / 7) with e7 | e7
    · refine ⟨_, rfl, _, _, rfl, rfl, ⟨by decide, by decide⟩, _, _, rfl, rfl, (by show (0 : Int) < 2; decide), p4, _, _, _, rfl, rfl, SqT.of upd_same, e7, _, rfl, four, fun p5 hp5 => ?_⟩
      refine q _ (.put y (.loc x) e) _ (m1.trans (mm.trans (same_new hp5 _))) (dp_put hp5 y (dp_mono m4 _ _ d3) (dp_mono mm _ _ d1)) ?_
      unfold Stm.Ok
      exact ⟨hy, hx, o1⟩
    · refine ⟨_, rfl, _, _, rfl, rfl, ⟨by decide, by decide⟩, _, _, rfl, rfl, (by show (0 : Int) < 2; decide), p4, _, _, _, rfl, rfl, SqT.of upd_same, e7, _, rfl, four, fun p5 hp5 => ?_⟩
      refine q _ (.put y e2 e) _ (m1.trans (mm.trans (same_new hp5 _))) (dp_put hp5 y (dp_mono (m3.trans m4) _ _ d2) (dp_mono mm _ _ d1)) ?_
      unfold Stm.Ok
      exact ⟨hy, o2.mono (by decide), o1⟩
  -- lot
  refine ⟨_, rfl, rfl, _, rfl, and_if ?_ fun _ rest => ?_⟩
  rotate_left
  · refine ⟨_, rfl, la, _, rfl, .inl hL1, _, _, rfl, rfl, _, rfl, ite2 (fun c => ?_) (fun _ => rest)⟩
    have l0 := ne_of_len c
    obtain ⟨y, hy, ey⟩ := pick_mem (r := r / 9) l0
    obtain ⟨x3, hx3, ex3⟩ := pick_mem (r := r / 3) hA.n0
    refine ⟨_, rfl, _, _, rfl, rfl, ⟨by decide, by decide⟩, _, rfl, _, rfl, _, rfl, _, na, va, ta, sc, rfl, hA1, fun v2 e2 H2 m2 d2 o2 => ?_⟩
    have hA2 := hA1.mono m2
    refine ⟨_, rfl, _, rfl, _, _, rfl, rfl, ⟨by decide, by decide⟩, _, rfl, na, _, rfl, .inr hA2.n, _, _, rfl, rfl, len_pos hA.n0, na, _, _, _, rfl, rfl, hA2.n, ex3, two, fun p3 hp3 => ?_⟩
    have m3 := same_new hp3 (.tup [.str "local", .str x3])
    have d3 := dp_loc (K := K) hp3 x3
    refine ⟨_, rfl, two, fun p4 hp4 => ?_⟩
    have m4 := same_new hp4 (.tup [.ref p3, v2])
    have m34 := m3.trans m4
    have mm := m2.trans m34
    have hA4 := hA2.mono m34
    have hL4 := mm.seq hL1
    have fin : ∀ (z : V) (f : Ex), Dp K (upd (upd H2 p3 (.tup [.str "local", .str x3])) p4 (.tup [.ref p3, v2])) z f.d → f.Ok sc 3 →
        tRet (tTup (tCons (tC (.str "lot")) (tCons (tOp (rIxT K) (tVar 1) (tOp (rI (fun _ j => 0 < j) fun i j => .int (i % j)) (tVar 6) (tCB (fun xs H Q => ∃ p ys, xs = [.ref p] ∧ (SqL K H p ys ∨ SqT K H p ys) ∧ Q (.int ys.length) H) (tCons (tVar 1) tNil))))
          (tCons (tOp (rIxL K) (tVar 4) (tOp (rI (fun _ j => 0 < j) fun i j => .int (i % j)) (tOp (rI CDivW fun i j => .int (i / j)) (tVar 6) (tC (.int 9))) (tCB (fun xs H Q => ∃ p ys, xs = [.ref p] ∧ (SqL K H p ys ∨ SqT K H p ys) ∧ Q (.int ys.length) H) (tCons (tVar 4) tNil))))
          (tCons (tVar 9) tNil))))) { nx := fun _ H' => Q .non H', rt := Q } [some (.int code), some (.ref na), some (.ref va), some (.ref ta), some (.ref la), some (.int pk), some (.int r), some v, some v2, some z]
          (upd (upd H2 p3 (.tup [.str "local", .str x3])) p4 (.tup [.ref p3, v2])) := by
      intro z f df of_
      refine ⟨_, rfl, _, rfl, _, rfl, na, _, rfl, .inr hA4.n, _, _, rfl, rfl, len_pos hA.n0, na, _, _, _, rfl, rfl, hA4.n, ex, ?_⟩
      refine ⟨_, rfl, _, rfl, _, _, rfl, rfl, ⟨by decide, by decide⟩, _, rfl, la, _, rfl, .inl hL4, _, _, rfl, rfl, len_pos l0, la, _, _, _, rfl, rfl, hL4, ey, _, rfl, four, fun p5 hp5 => ?_⟩
      refine q _ (.lot x y f) _ (m1.trans (mm.trans (same_new hp5 _))) (dp_lot hp5 x y df) ?_
      unfold Stm.Ok
      exact ⟨hx, hy, of_⟩
    rcases pick_two (a := V.ref p3) (b := v2) (r := r / 7) with e7 | e7
    · refine ⟨_, rfl, _, _, rfl, rfl, ⟨by decide, by decide⟩, _, _, rfl, rfl, (by show (0 : Int) < 2; decide), p4, _, _, _, rfl, rfl, SqT.of upd_same, e7, ?_⟩
      exact fin _ (.loc x3) (dp_mono m4 _ _ d3) hx3
    · refine ⟨_, rfl, _, _, rfl, rfl, ⟨by decide, by decide⟩, _, _, rfl, rfl, (by show (0 : Int) < 2; decide), p4, _, _, _, rfl, rfl, SqT.of upd_same, e7, ?_⟩
      exact fin _ e2 (dp_mono m34 _ _ d2) (o2.mono (by decide))
  -- let
  refine ⟨_, rfl, _, rfl, _, rfl, na, _, rfl, .inr hA1.n, _, _, rfl, rfl, len_pos hA.n0, na, _, _, _, rfl, rfl, hA1.n, ex, _, rfl, three, fun p2 hp2 => ?_⟩
  refine q _ (.lt x e) _ (m1.trans (same_new hp2 _)) (dp_let hp2 x d1) ?_
  unfold Stm.Ok
  exact ⟨hx, o1⟩
/-! ### a block -/
theorem ok_block (T : Txt K mg) : FnOk P w K mg base CX0 4 T.a_law_block T.fd_law_block ["cells", "names", "variables", "tables", "lots"] (spBlock K) := by
  have G_law_plain : FnOk P w K mg base CX0 3 T.a_law_plain T.fd_law_plain ["cell", "names", "variables", "tables", "lots"] (spPlain K) := ok_plain T
  have G_law_value : FnOk P w K mg base CX0 2 T.a_law_value T.fd_law_value ["cell", "names", "variables", "tables"] (spSide K 3) := ok_value T
  refine T.F_law_block.ok sc_law_block (fun vs H Q E h => ?_) (fun cdv A outer s H vs Q E hr h => ?_)
  · obtain ⟨ca, na, va, ta, la, ns, s, rfl, _⟩ := h
    rfl
  obtain ⟨ca, na, va, ta, la, ns, sc, rfl, hC, hlen, hA, hL, q⟩ := h
  refine ⟨_, (pss_cons (ps_set (i := 5) sc_law_block.nd rfl (Or.inl rfl) (pe_lst pa_nil))
    (pss_cons (ps_for PassesOwn.never rfl (pi_list (pv 0)) (pg_name (i := 6) sc_law_block.nd rfl (Or.inl rfl))
      (pss_cons (ps_set (i := 7) sc_law_block.nd rfl (Or.inl rfl) (pe_op op_mod (pe_callTy call_int1 (by rfl) T.z_int (by decide +kernel) (pa_cons (pv 6) pa_nil)) pe_int))
    (pss_cons (ps_set (i := 8) sc_law_block.nd rfl (Or.inl rfl) (pe_op op_fdivW (pe_callTy call_int1 (by rfl) T.z_int (by decide +kernel) (pa_cons (pv 6) pa_nil)) pe_int))
    (pss_cons (ps_set (i := 9) sc_law_block.nd rfl (Or.inl rfl) (pe_call G_law_plain (hr.mono (by decide)) rfl T.g_law_plain T.k_law_plain T.b_law_plain .nil pass0 (pa_cons (pe_op op_fdivW (pv 8) pe_int) (pa_cons (pv 1) (pa_cons (pv 2) (pa_cons (pv 3) (pa_cons (pv 4) pa_nil)))))))
    (pss_cons (ps_set (i := 10) sc_law_block.nd rfl (Or.inl rfl) (pe_call G_law_plain (hr.mono (by decide)) rfl T.g_law_plain T.k_law_plain T.b_law_plain .nil pass0 (pa_cons (pe_op op_fdivW (pv 8) pe_int) (pa_cons (pv 1) (pa_cons (pv 2) (pa_cons (pv 3) (pa_cons (pv 4) pa_nil)))))))
    (pss_one (ps_if (pt_cmpR op_eq (pv 7) pe_int (nomark _))
      (pss_cons (ps_set (i := 11) sc_law_block.nd rfl (Or.inl rfl) (pe_tup pa_nil))
    (pss_cons (ps_if (pt_cmpR op_eq (pe_op op_mod (pv 8) pe_int) pe_int (nomark _))
      (pss_one (ps_set (i := 11) sc_law_block.nd rfl (Or.inl rfl) (pe_tup (pa_cons (pe_call G_law_plain (hr.mono (by decide)) rfl T.g_law_plain T.k_law_plain T.b_law_plain .nil pass0 (pa_cons (pe_op op_fdivW (pv 8) pe_int) (pa_cons (pv 1) (pa_cons (pv 2) (pa_cons (pv 3) (pa_cons (pv 4) pa_nil)))))) pa_nil))))
      pss_nil)
    (pss_cons (ps_set (i := 12) sc_law_block.nd rfl (Or.inl rfl) (pe_tup (pa_cons (pv 9) pa_nil)))
    (pss_cons (ps_if (pt_cmpR op_eq (pe_op op_mod (pe_op op_fdivW (pv 8) pe_int) pe_int) pe_int (nomark _))
      (pss_one (ps_set (i := 12) sc_law_block.nd rfl (Or.inl rfl) (pe_tup (pa_cons (pe_tup (pa_cons pe_str (pa_cons (pe_call G_law_value (hr.mono (by decide)) rfl T.g_law_value T.k_law_value T.b_law_value .nil pass0 (pa_cons (pe_op op_fdivW (pv 8) pe_int) (pa_cons (pv 1) (pa_cons (pv 2) (pa_cons (pv 3) pa_nil))))) (pa_cons (pe_tup (pa_cons (pv 9) pa_nil)) (pa_cons (pv 11) pa_nil))))) pa_nil))))
      pss_nil)
    (pss_cons (ps_if (pt_cmpR op_eq (pe_op op_mod (pe_op op_fdivW (pv 8) pe_int) pe_int) pe_int (nomark _))
      (pss_one (ps_set (i := 12) sc_law_block.nd rfl (Or.inl rfl) (pe_tup (pa_cons (pe_tup (pa_cons pe_str (pa_cons (pe_tup (pa_cons (pv 9) pa_nil)) pa_nil))) (pa_cons (pe_tup (pa_cons pe_str (pa_cons (pe_tup (pa_cons pe_str (pa_cons (pe_ix ix_tup (pv 1) pe_int (fun _ _ => rfl)) pa_nil))) (pa_cons (pe_tup (pa_cons (pe_tup (pa_cons pe_str pa_nil)) pa_nil)) (pa_cons (pe_tup pa_nil) pa_nil))))) pa_nil)))))
      pss_nil)
    (pss_cons (ps_if (pt_cmpR op_eq (pe_op op_mod (pe_op op_fdivW (pv 8) pe_int) pe_int) pe_int (nomark _))
      (pss_one (ps_set (i := 11) sc_law_block.nd rfl (Or.inl rfl) (pe_tup (pa_cons (pe_tup (pa_cons pe_str (pa_cons (pe_call G_law_value (hr.mono (by decide)) rfl T.g_law_value T.k_law_value T.b_law_value .nil pass0 (pa_cons (pe_op op_fdivW (pv 8) pe_int) (pa_cons (pv 1) (pa_cons (pv 2) (pa_cons (pv 3) pa_nil))))) (pa_cons (pe_tup pa_nil) (pa_cons (pe_tup (pa_cons (pv 9) pa_nil)) pa_nil))))) pa_nil))))
      pss_nil)
    (pss_cons (ps_if (pt_cmpR op_eq (pe_op op_mod (pe_op op_fdivW (pv 8) pe_int) pe_int) pe_int (nomark _))
      (pss_one (ps_set (i := 11) sc_law_block.nd rfl (Or.inl rfl) (pe_tup (pa_cons (pv 10) (pa_cons (pe_tup (pa_cons pe_str pa_nil)) pa_nil)))))
      pss_nil)
    (pss_one (ps_expr (pe_bm PySem.F.plainAttrs_list PySem.F.slot_list_append PySem.F.type_list_append mt_append (pv 5) (pa_cons (pe_tup (pa_cons pe_str (pa_cons (pe_call G_law_value (hr.mono (by decide)) rfl T.g_law_value T.k_law_value T.b_law_value .nil pass0 (pa_cons (pe_op op_fdivW (pv 8) pe_int) (pa_cons (pv 1) (pa_cons (pv 2) (pa_cons (pv 3) pa_nil))))) (pa_cons (pv 12) (pa_cons (pv 11) pa_nil))))) pa_nil)))))))))))
      (pss_one (ps_if (PW.pt (pw_and (pt_cmpR op_eq (pv 7) pe_int (nomark _)) (pw_and1 (pt_cmpR op_eq (pe_op op_mod (pv 8) pe_int) pe_int (nomark _)))))
      (pss_one (ps_expr (pe_bm PySem.F.plainAttrs_list PySem.F.slot_list_append PySem.F.type_list_append mt_append (pv 5) (pa_cons (pe_tup (pa_cons pe_str pa_nil)) pa_nil))))
      (pss_one (ps_if (PW.pt (pw_and (pt_cmpR op_eq (pv 7) pe_int (nomark _)) (pw_and1 (pt_cmpR op_eq (pe_op op_mod (pv 8) pe_int) pe_int (nomark _)))))
      (pss_cons (ps_set (i := 13) sc_law_block.nd rfl (Or.inl rfl) (pe_call G_law_value (hr.mono (by decide)) rfl T.g_law_value T.k_law_value T.b_law_value .nil pass0 (pa_cons (pe_op op_fdivW (pv 8) pe_int) (pa_cons (pv 1) (pa_cons (pv 2) (pa_cons (pv 3) pa_nil))))))
    (pss_one (ps_expr (pe_bm PySem.F.plainAttrs_list PySem.F.slot_list_append PySem.F.type_list_append mt_append (pv 5) (pa_cons (pe_tup (pa_cons pe_str (pa_cons (pe_ix ix_tup (pe_tup (pa_cons (pe_tup (pa_cons (pv 9) pa_nil)) (pa_cons (pe_tup pa_nil) (pa_cons (pe_tup (pa_cons (pv 9) (pa_cons (pv 10) pa_nil))) (pa_cons (pe_tup (pa_cons (pe_tup (pa_cons pe_str (pa_cons (pv 13) (pa_cons (pe_tup (pa_cons (pv 9) pa_nil)) (pa_cons (pe_tup (pa_cons (pv 10) pa_nil)) pa_nil))))) pa_nil)) pa_nil))))) (pe_op op_mod (pe_op op_fdivW (pv 8) pe_int) pe_int) (fun _ _ => rfl)) pa_nil))) pa_nil)))))
      (pss_one (ps_expr (pe_bm PySem.F.plainAttrs_list PySem.F.slot_list_append PySem.F.type_list_append mt_append (pv 5) (pa_cons (pv 9) pa_nil)))))))))))))))
    (pss_one (ps_ret (pe_callTy call_tuple_of (by rfl) T.z_tuple (by decide +kernel) (pa_cons (pv 5) pa_nil)))))), ?_⟩
  have zero : (0 : Nat) ≤ sizeLine := by decide
  have one : (1 : Nat) ≤ sizeLine := by decide
  have two : (2 : Nat) ≤ sizeLine := by decide
  have four : (4 : Nat) ≤ sizeLine := by decide
  refine ⟨zero, fun l hl => ?_⟩
  have nl : ∀ b o, H b = some o → b ≠ l := fun b o e => ne_of_none e hl
  refine ⟨_, rfl, ca, rfl, ⟨_, (same_new hl (.lst [])).seq hC⟩, for_list (K := K) (a := ca) (xs := ns.map V.int) (fun i σ H' => ∃ (vs : List V) (b : Blk) (v1 v2 v3 v4 v5 v6 v7 v8 : Option V),
      σ = [some (.ref ca), some (.ref na), some (.ref va), some (.ref ta), some (.ref la), some (.ref l), v1, v2, v3, v4, v5, v6, v7, v8] ∧ Same H H' ∧ H' l = some (.lst vs) ∧ DpAll K H' vs b.ds ∧ b.Ok sc 3 2 ∧ b.len = i)
    ⟨[], .nil, none, none, none, none, none, none, none, none, rfl, same_new hl _, upd_same, by rw [Blk.ds]; exact .nil, Blk.ok_nil, rfl⟩ (fun i σ H' _ ⟨_, _, _, _, _, _, _, _, _, _, _, m, _⟩ => m.seq hC) ?_ ?_⟩
  · rintro i y σ H1 hi ⟨vs, b, v1, v2, v3, v4, v5, v6, v7, v8, rfl, m1, hl1, hb1, ob1, nb1⟩
    obtain ⟨z, hz, rfl⟩ : ∃ z, ns[i]? = some z ∧ y = V.int z := by
      rw [List.getElem?_map] at hi
      cases e : ns[i]? with
      | none => rw [e] at hi; cases hi
      | some z => rw [e] at hi; exact ⟨z, rfl, (Option.some.inj hi).symm⟩
    have hil : i < ns.length := (List.getElem?_eq_some_iff.mp hz).1
    have lv : vs.length = i := by rw [DpAll.len hb1, Blk.len_ds, nb1]
    have lbig : vs.length < sizeLine := small1000 (by omega)
    have hA1 := hA.mono m1
    have hL1 := m1.seq hL
    -- what is appended, at the turn's end
    have fin : ∀ (v : V) (x : Stm) (H2 : Hp) (w1 w2 w3 w4 w5 w6 w7 w8 : Option V), Same H1 H2 → Dp K H2 v x.d → x.Ok sc 3 2 →
        ∃ (vs' : List V) (b' : Blk) (v1 v2 v3 v4 v5 v6 v7 v8 : Option V),
          ([some (.ref ca), some (.ref na), some (.ref va), some (.ref ta), some (.ref la), some (.ref l), w1, w2, w3, w4, w5, w6, w7, w8] : List (Option V)) =
            [some (.ref ca), some (.ref na), some (.ref va), some (.ref ta), some (.ref la), some (.ref l), v1, v2, v3, v4, v5, v6, v7, v8] ∧
          Same H (upd H2 l (.lst (vs ++ [v]))) ∧ (upd H2 l (.lst (vs ++ [v]))) l = some (.lst vs') ∧ DpAll K (upd H2 l (.lst (vs ++ [v]))) vs' b'.ds ∧ b'.Ok sc 3 2 ∧ b'.len = i + 1 := by
      intro v x H2 w1 w2 w3 w4 w5 w6 w7 w8 m2 dv ox
      have hl2 := m2 _ _ hl1
      have tp : Tups H2 (upd H2 l (.lst (vs ++ [v]))) := Tups.lst hl2
      refine ⟨vs ++ [v], b.app (.cons x .nil), _, _, _, _, _, _, _, _, rfl, fun c o e => by rw [upd_ne (nl c o e)]; exact m2 _ _ (m1 _ _ e), upd_same, ?_, Blk.ok_app ob1 (Blk.ok_cons ox Blk.ok_nil), by rw [Blk.len_app, nb1]; rfl⟩
      rw [Blk.ds_app]
      refine DpAll.app (dp_tupsAll tp _ _ (Blk.nol b) (dp_monoAll m2 _ _ hb1)) ?_
      rw [Blk.ds, Blk.ds]
      exact .cons (dp_tups tp _ _ (Stm.nol x) dv) .nil
    have app : ∀ (v : V) (H2 : Hp), Same H1 H2 → ∃ l' ys y, V.ref l = V.ref l' ∧ [v] = [y] ∧ H2 l' = some (.lst ys) ∧ ys.length < sizeLine ∧ ys = vs := fun v H2 m2 => ⟨l, vs, v, rfl, rfl, m2 _ _ hl1, lbig, rfl⟩
    -- way, rest, inner, more
    refine ⟨_, rfl, .inl ⟨_, rfl, _, _, rfl, rfl, (by show (0 : Int) < 9; decide), ?_⟩⟩
    refine ⟨_, rfl, .inl ⟨_, rfl, _, _, rfl, rfl, ⟨by decide, by decide⟩, ?_⟩⟩
    dsimp only
    generalize z / 9 = r
    generalize z % 9 = way
    refine ⟨_, rfl, _, _, rfl, rfl, ⟨by decide, by decide⟩, _, rfl, _, rfl, _, rfl, _, rfl, _, na, va, ta, la, sc, rfl, hA1, hL1, fun vi xi H2 m2 di oi => ?_⟩
    refine ⟨_, rfl, _, _, rfl, rfl, ⟨by decide, by decide⟩, _, rfl, _, rfl, _, rfl, _, rfl, _, na, va, ta, la, sc, rfl, hA1.mono m2, m2.seq hL1, fun vm xm H3 m3' dm om => ?_⟩
    have m3 := m2.trans m3'
    have di3 := dp_mono m3' _ _ di
    clear m2 m3' di
    refine ⟨_, rfl, rfl, _, rfl, ite2 (fun _ => ?_) (fun _ => ?_)⟩
    · -- an if; other = ()
      refine ⟨zero, fun p0 hp0 => ?_⟩
      have m4 := m3.trans (same_new hp0 (.tup []))
      have d4 := dp_b0 (K := K) hp0
      have di4 := dp_mono (same_new hp0 (.tup [])) _ _ di3
      have dm4 := dp_mono (same_new hp0 (.tup [])) _ _ dm
      revert m4 d4 di4 dm4
      generalize upd H3 p0 (.tup []) = H4
      intro m4 d4 di4 dm4
      refine ⟨_, rfl, _, _, rfl, rfl, (by show (0 : Int) < 2; decide), rfl, _, rfl, ?_⟩
      refine if_rest (fun σ H' => ∃ (vo : V) (bo : Blk) (v7 v8 : Option V), σ = [some (.ref ca), some (.ref na), some (.ref va), some (.ref ta), some (.ref la), some (.ref l), some (.int z), some (.int way), some (.int r), some vi, some vm, some vo, v7, v8] ∧
        Same H1 H' ∧ Dp K H' vo bo.d ∧ bo.Ok sc 3 0 ∧ Dp K H' vi xi.d ∧ Dp K H' vm xm.d) ?_ (fun _ rest => ?_) (fun _ => ⟨_, _, _, _, rfl, m4, d4, Blk.ok_nil, di4, dm4⟩)
      rotate_left
      · refine ⟨_, rfl, _, _, rfl, rfl, ⟨by decide, by decide⟩, _, rfl, _, rfl, _, rfl, _, rfl, _, na, va, ta, la, sc, rfl, hA1.mono m4, m4.seq hL1, fun vp xp H5 m5 dp op => ⟨one, fun p6 hp6 => ?_⟩⟩
        have m6 := same_new hp6 (.tup [vp])
        exact rest _ _ ⟨_, _, _, _, rfl, m4.trans (m5.trans m6), dp_b1 hp6 dp, Blk.ok_cons op Blk.ok_nil, dp_mono (m5.trans m6) _ _ di4, dp_mono (m5.trans m6) _ _ dm4⟩
      -- then = (inner,)
      rintro σ H5 ⟨vo, bo, v7, v8, rfl, m5, do5, oo5, di5, dm5⟩
      refine ⟨_, rfl, one, fun p6 hp6 => ?_⟩
      have n6 := same_new hp6 (.tup [vi])
      have dt6 := dp_b1 (K := K) hp6 di5
      have m6 := m5.trans n6
      have do6 := dp_mono n6 _ _ do5
      have di6 := dp_mono n6 _ _ di5
      have dm6 := dp_mono n6 _ _ dm5
      revert m6 dt6 do6 di6 dm6
      generalize upd H5 p6 (.tup [vi]) = H6
      intro dt6 m6 do6 di6 dm6
      -- the state behind each of the four ifs
      let J : L2.St → Hp → Prop := fun σ H' => ∃ (vo vt : V) (bo bt : Blk) (v8 : Option V), σ = [some (.ref ca), some (.ref na), some (.ref va), some (.ref ta), some (.ref la), some (.ref l), some (.int z), some (.int way), some (.int r), some vi, some vm, some vo, some vt, v8] ∧
        Same H1 H' ∧ Dp K H' vo bo.d ∧ bo.Ok sc 3 1 ∧ Dp K H' vt bt.d ∧ bt.Ok sc 3 1 ∧ Dp K H' vi xi.d ∧ Dp K H' vm xm.d
      have oo1 : bo.Ok sc 3 1 := Blk.ok_mono oo5 (by decide)
      have oi1 : (Blk.cons xi .nil).Ok sc 3 1 := Blk.ok_cons (Stm.ok_mono oi (by decide)) Blk.ok_nil
      have st0 : J [some (.ref ca), some (.ref na), some (.ref va), some (.ref ta), some (.ref la), some (.ref l), some (.int z), some (.int way), some (.int r), some vi, some vm, some vo, some (.ref p6), v8] H6 := ⟨_, _, _, _, _, rfl, m6, do6, oo1, dt6, oi1, di6, dm6⟩
      -- 1: an if within
      refine ⟨_, rfl, _, _, rfl, rfl, ⟨by decide, by decide⟩, _, _, rfl, rfl, (by show (0 : Int) < 6; decide), rfl, _, rfl, ?_⟩
      refine if_rest J ?_ (fun _ rest => ?_) (fun _ => st0)
      rotate_left
      · refine ⟨_, rfl, _, _, rfl, rfl, ⟨by decide, by decide⟩, _, rfl, _, rfl, _, rfl, _, na, va, ta, sc, rfl, hA1.mono m6, fun ve e H7 m7 de oe => ?_⟩
        refine ⟨_, rfl, one, fun p8 hp8 => ?_⟩
        have n8 := same_new hp8 (.tup [vi])
        have m78 := m7.trans n8
        refine ⟨_, rfl, four, fun p9 hp9 => ?_⟩
        have n9 := same_new hp9 (.tup [.str "if", ve, .ref p8, vo])
        have d9 := dp_if (K := K) hp9 (dp_mono n8 _ _ de) (dp_b1 hp8 (dp_mono m7 _ _ di6)) (dp_mono m78 _ _ do6)
        refine ⟨one, fun p10 hp10 => ?_⟩
        have n10 := same_new hp10 (.tup [.ref p9])
        have mm := m78.trans (n9.trans n10)
        exact rest _ _ ⟨_, _, _, _, _, rfl, m6.trans mm, dp_mono mm _ _ do6, oo1, dp_b1 hp10 d9, Blk.ok_cons (Stm.ok_ite oe (Blk.ok_cons oi Blk.ok_nil) oo5) Blk.ok_nil, dp_mono mm _ _ di6, dp_mono mm _ _ dm6⟩
      clear st0 do6 dt6 di6 dm6 m6 oo5 oo1 do5 di5 dm5 m5
      rintro σ H7 ⟨vo, vt, bo, bt, v8, rfl, m7, do7, oo7, dt7, ot7, di7, dm7⟩
      -- 2: an after, and bad in an if
      refine ⟨_, rfl, _, _, rfl, rfl, ⟨by decide, by decide⟩, _, _, rfl, rfl, (by show (0 : Int) < 6; decide), rfl, _, rfl, ?_⟩
      refine if_rest J ?_ (fun _ rest => ?_) (fun _ => ⟨_, _, _, _, _, rfl, m7, do7, oo7, dt7, ot7, di7, dm7⟩)
      rotate_left
      · refine ⟨_, rfl, one, fun p8 hp8 => ?_⟩
        have n8 := same_new hp8 (.tup [vi])
        have e8 := dp_b1 (K := K) hp8 di7
        refine ⟨two, fun p9 hp9 => ?_⟩
        have n9 := same_new hp9 (.tup [.str "after", .ref p8])
        have e9 := dp_after (K := K) hp9 e8
        have hA9 := hA1.mono (m7.trans (n8.trans n9))
        obtain ⟨x0, hx0⟩ : ∃ x0, sc.locs[0]? = some x0 := ⟨_, List.getElem?_eq_getElem (List.length_pos_iff.mpr hA.n0)⟩
        refine ⟨_, rfl, na, _, _, _, rfl, rfl, hA9.n, at_of (j := 0) rfl (by rw [List.getElem?_map, hx0]; rfl), two, fun p10 hp10 => ?_⟩
        have n10 := same_new hp10 (.tup [.str "local", .str x0])
        have e10 := dp_loc (K := K) hp10 x0
        refine ⟨one, fun p11 hp11 => ?_⟩
        have n11 := same_new hp11 (.tup [.str "bad"])
        have e11 := dp_bad (K := K) hp11
        refine ⟨one, fun p12 hp12 => ?_⟩
        have n12 := same_new hp12 (.tup [.ref p11])
        have e12 := dp_b1 (K := K) hp12 e11
        refine ⟨zero, fun p13 hp13 => ?_⟩
        have n13 := same_new hp13 (.tup [])
        have e13 := dp_b0 (K := K) hp13
        refine ⟨four, fun p14 hp14 => ?_⟩
        have n14 := same_new hp14 (.tup [.str "if", .ref p10, .ref p12, .ref p13])
        have e14 := dp_if (K := K) hp14 (dp_mono (n11.trans (n12.trans n13)) _ _ e10) (dp_mono n13 _ _ e12) e13
        refine ⟨two, fun p15 hp15 => ?_⟩
        have n15 := same_new hp15 (.tup [.ref p9, .ref p14])
        have e15 := dp_b2 (K := K) hp15 (dp_mono (n10.trans (n11.trans (n12.trans (n13.trans n14)))) _ _ e9) e14
        have mm := n8.trans (n9.trans (n10.trans (n11.trans (n12.trans (n13.trans (n14.trans n15))))))
        refine rest _ _ ⟨_, _, _, _, _, rfl, m7.trans mm, dp_mono mm _ _ do7, oo7, e15, ?_, dp_mono mm _ _ di7, dp_mono mm _ _ dm7⟩
        exact Blk.ok_cons (Stm.ok_after (Blk.ok_cons oi Blk.ok_nil)) (Blk.ok_cons (Stm.ok_ite (show x0 ∈ sc.locs from List.mem_of_getElem? hx0) (Blk.ok_cons Stm.ok_bad Blk.ok_nil) Blk.ok_nil) Blk.ok_nil)
      clear do7 dt7 di7 dm7 m7 oo7 ot7
      rintro σ H7 ⟨vo, vt, bo, bt, v8, rfl, m7, do7, oo7, dt7, ot7, di7, dm7⟩
      -- 3: an if in the else
      refine ⟨_, rfl, _, _, rfl, rfl, ⟨by decide, by decide⟩, _, _, rfl, rfl, (by show (0 : Int) < 6; decide), rfl, _, rfl, ?_⟩
      refine if_rest J ?_ (fun _ rest => ?_) (fun _ => ⟨_, _, _, _, _, rfl, m7, do7, oo7, dt7, ot7, di7, dm7⟩)
      rotate_left
      · refine ⟨_, rfl, _, _, rfl, rfl, ⟨by decide, by decide⟩, _, rfl, _, rfl, _, rfl, _, na, va, ta, sc, rfl, hA1.mono m7, fun ve e H8 m8 de oe => ?_⟩
        refine ⟨zero, fun p9 hp9 => ?_⟩
        have n9 := same_new hp9 (.tup [])
        have e9 := dp_b0 (K := K) hp9
        refine ⟨_, rfl, one, fun p10 hp10 => ?_⟩
        have n10 := same_new hp10 (.tup [vi])
        have e10 := dp_b1 (K := K) hp10 (dp_mono (m8.trans n9) _ _ di7)
        refine ⟨four, fun p11 hp11 => ?_⟩
        have n11 := same_new hp11 (.tup [.str "if", ve, .ref p9, .ref p10])
        have e11 := dp_if (K := K) hp11 (dp_mono (n9.trans n10) _ _ de) (dp_mono n10 _ _ e9) e10
        refine ⟨one, fun p12 hp12 => ?_⟩
        have n12 := same_new hp12 (.tup [.ref p11])
        have e12 := dp_b1 (K := K) hp12 e11
        have mm := m8.trans (n9.trans (n10.trans (n11.trans n12)))
        exact rest _ _ ⟨_, _, _, _, _, rfl, m7.trans mm, e12, Blk.ok_cons (Stm.ok_ite oe Blk.ok_nil (Blk.ok_cons oi Blk.ok_nil)) Blk.ok_nil, dp_mono mm _ _ dt7, ot7, dp_mono mm _ _ di7, dp_mono mm _ _ dm7⟩
      clear do7 dt7 di7 dm7 m7 oo7 ot7
      rintro σ H7 ⟨vo, vt, bo, bt, v8, rfl, m7, do7, oo7, dt7, ot7, di7, dm7⟩
      -- 4: bad in the else
      refine ⟨_, rfl, _, _, rfl, rfl, ⟨by decide, by decide⟩, _, _, rfl, rfl, (by show (0 : Int) < 6; decide), rfl, _, rfl, ?_⟩
      refine if_rest J ?_ (fun _ rest => ?_) (fun _ => ⟨_, _, _, _, _, rfl, m7, do7, oo7, dt7, ot7, di7, dm7⟩)
      rotate_left
      · refine ⟨_, rfl, one, fun p9 hp9 => ?_⟩
        have n9 := same_new hp9 (.tup [.str "bad"])
        have e9 := dp_bad (K := K) hp9
        refine ⟨two, fun p10 hp10 => ?_⟩
        have n10 := same_new hp10 (.tup [vm, .ref p9])
        have e10 := dp_b2 (K := K) hp10 (dp_mono n9 _ _ dm7) e9
        have mm := n9.trans n10
        exact rest _ _ ⟨_, _, _, _, _, rfl, m7.trans mm, e10, Blk.ok_cons (Stm.ok_mono om (by decide)) (Blk.ok_cons Stm.ok_bad Blk.ok_nil), dp_mono mm _ _ dt7, ot7, dp_mono mm _ _ di7, dp_mono mm _ _ dm7⟩
      clear do7 dt7 di7 dm7 m7 oo7 ot7
      rintro σ H7 ⟨vo, vt, bo, bt, v8, rfl, m7, do7, oo7, dt7, ot7, di7, dm7⟩
      refine ⟨_, rfl, .inl ⟨rfl, _, SqL.of (m7 _ _ hl1)⟩, _, rfl, _, _, rfl, rfl, ⟨by decide, by decide⟩, _, rfl, _, rfl, _, rfl, _, na, va, ta, sc, rfl, hA1.mono m7, fun ve e H8 m8 de oe => ?_⟩
      refine ⟨_, rfl, _, rfl, four, fun p9 hp9 => ?_⟩
      have n9 := same_new hp9 (.tup [.str "if", ve, vt, vo])
      have e9 := dp_if (K := K) hp9 de (dp_mono m8 _ _ dt7) (dp_mono m8 _ _ do7)
      have mm := m7.trans (m8.trans n9)
      refine ⟨l, vs, _, rfl, rfl, mm _ _ hl1, lbig, ?_⟩
      exact fin _ _ _ _ _ _ _ _ _ _ _ mm e9 (Stm.ok_ite oe ot7 oo7)
    · -- bad
      refine ⟨_, rfl, rfl, _, rfl, and_if ?_ fun _ rest => ?_⟩
      rotate_left
      · refine ⟨_, rfl, _, _, rfl, rfl, (by show (0 : Int) < 3; decide), rfl, _, rfl, ite2 (fun c => ?_) (fun _ => rest)⟩
        refine ⟨_, rfl, .inl ⟨rfl, _, SqL.of (m3 _ _ hl1)⟩, one, fun p4 hp4 => ?_⟩
        have mm := m3.trans (same_new hp4 (.tup [.str "bad"]))
        refine ⟨l, vs, _, rfl, rfl, mm _ _ hl1, lbig, ?_⟩
        exact fin _ _ _ _ _ _ _ _ _ _ _ mm (dp_bad hp4) Stm.ok_bad
      -- an after
      refine ⟨_, rfl, rfl, _, rfl, and_if ?_ fun _ rest => ?_⟩
      rotate_left
      · refine ⟨_, rfl, _, _, rfl, rfl, (by show (0 : Int) < 3; decide), rfl, _, rfl, ite2 (fun c => ?_) (fun _ => rest)⟩
        refine ⟨_, rfl, _, _, rfl, rfl, ⟨by decide, by decide⟩, _, rfl, _, rfl, _, rfl, _, na, va, ta, sc, rfl, hA1.mono m3, fun ve e H8 m8 de oe => ?_⟩
        have m38 := m3.trans m8
        have di8 := dp_mono m8 _ _ di3
        have dm8 := dp_mono m8 _ _ dm
        refine ⟨_, rfl, .inl ⟨rfl, _, SqL.of (m38 _ _ hl1)⟩, _, rfl, one, fun p9 hp9 => ?_⟩
        have n9 := same_new hp9 (.tup [vi])
        have e9 := dp_b1 (K := K) hp9 di8
        refine ⟨zero, fun p10 hp10 => ?_⟩
        have n10 := same_new hp10 (.tup [])
        have e10 := dp_b0 (K := K) hp10
        refine ⟨_, rfl, _, rfl, two, fun p11 hp11 => ?_⟩
        have n11 := same_new hp11 (.tup [vi, vm])
        have n910 := n9.trans n10
        have e11 := dp_b2 (K := K) hp11 (dp_mono n910 _ _ di8) (dp_mono n910 _ _ dm8)
        have n911 := n910.trans n11
        refine ⟨_, rfl, _, rfl, one, fun p12 hp12 => ?_⟩
        have n12 := same_new hp12 (.tup [vi])
        have e12 := dp_b1 (K := K) hp12 (dp_mono n911 _ _ di8)
        refine ⟨_, rfl, one, fun p13 hp13 => ?_⟩
        have n13 := same_new hp13 (.tup [vm])
        have e13 := dp_b1 (K := K) hp13 (dp_mono (n911.trans n12) _ _ dm8)
        refine ⟨four, fun p14 hp14 => ?_⟩
        have n14 := same_new hp14 (.tup [.str "if", ve, .ref p12, .ref p13])
        have e14 := dp_if (K := K) hp14 (dp_mono (n911.trans (n12.trans n13)) _ _ de) (dp_mono n13 _ _ e12) e13
        refine ⟨one, fun p15 hp15 => ?_⟩
        have n15 := same_new hp15 (.tup [.ref p14])
        have e15 := dp_b1 (K := K) hp15 e14
        refine ⟨four, fun p16 hp16 => ?_⟩
        have n16 := same_new hp16 (.tup [.ref p9, .ref p10, .ref p11, .ref p15])
        obtain ⟨v, hv, ev⟩ := pick_disp (vs := [.ref p9, .ref p10, .ref p11, .ref p15]) (r := r / 3) (n := 4) rfl (by decide)
        refine ⟨_, rfl, _, _, rfl, rfl, ⟨by decide, by decide⟩, _, _, rfl, rfl, (by show (0 : Int) < 4; decide), p16, _, _, _, rfl, rfl, SqT.of upd_same, ev, two, fun p17 hp17 => ?_⟩
        have n17 := same_new hp17 (.tup [.str "after", v])
        have n1216 := n12.trans (n13.trans (n14.trans (n15.trans n16)))
        have mm := m38.trans (n911.trans (n1216.trans n17))
        simp only [List.mem_cons, List.not_mem_nil, or_false] at hv
        refine ⟨l, vs, _, rfl, rfl, mm _ _ hl1, lbig, ?_⟩
        rcases hv with rfl | rfl | rfl | rfl
        · exact fin _ _ _ _ _ _ _ _ _ _ _ mm (dp_after hp17 (dp_mono (n10.trans (n11.trans n1216)) _ _ e9)) (Stm.ok_after (Blk.ok_cons (Stm.ok_mono oi (by decide)) Blk.ok_nil))
        · exact fin _ _ _ _ _ _ _ _ _ _ _ mm (dp_after hp17 (dp_mono (n11.trans n1216) _ _ e10)) (Stm.ok_after Blk.ok_nil)
        · exact fin _ _ _ _ _ _ _ _ _ _ _ mm (dp_after hp17 (dp_mono n1216 _ _ e11)) (Stm.ok_after (Blk.ok_cons (Stm.ok_mono oi (by decide)) (Blk.ok_cons (Stm.ok_mono om (by decide)) Blk.ok_nil)))
        · exact fin _ _ _ _ _ _ _ _ _ _ _ mm (dp_after hp17 (dp_mono n16 _ _ e15)) (Stm.ok_after (Blk.ok_cons (Stm.ok_ite oe (Blk.ok_cons oi Blk.ok_nil) (Blk.ok_cons om Blk.ok_nil)) Blk.ok_nil))
      -- a plain one
      refine ⟨_, rfl, .inl ⟨rfl, _, SqL.of (m3 _ _ hl1)⟩, _, rfl, l, vs, _, rfl, rfl, m3 _ _ hl1, lbig, ?_⟩
      exact fin _ _ _ _ _ _ _ _ _ _ _ m3 di3 (Stm.ok_mono oi (by decide))
  · rintro σ H1 ⟨vs, b, v1, v2, v3, v4, v5, v6, v7, v8, rfl, m1, hl1, hb1, ob1, nb1⟩
    refine ⟨_, rfl, l, vs, rfl, .inl ⟨SqL.of hl1, fun p hp => ?_⟩⟩
    exact q _ b _ (m1.trans (same_new hp _)) (dp_tup hp hb1) ob1 (by rw [nb1, List.length_map])
/-! ### a game -/
def spGame (K : PySem.W.Frag) : Sp := fun vs H Q _ => ∃ (a : Addr) (ns : List Int) (k : Int), vs = [.ref a, .int k] ∧ SqL K H a (ns.map V.int) ∧ 0 ≤ k ∧
  ∀ (v : V) (g : Ga) (H' : Hp), Same H H' → Dp K H' v g.d → GaOk g → Q v H'
theorem tab5 {r : Int} : ∃ n : Int, atI ([.int 0, .int 1, .int 0, .int 1, .int 2] : List V) (r % 5) = some (.int n) ∧ 0 ≤ n ∧ n ≤ 2 := by
  obtain ⟨z, hz, ez⟩ := pick_disp (vs := [.int 0, .int 1, .int 0, .int 1, .int 2]) (r := r) (n := 5) rfl (by decide)
  simp only [List.mem_cons, List.not_mem_nil, or_false] at hz
  rcases hz with rfl | rfl | rfl | rfl | rfl
  · exact ⟨_, ez, by decide, by decide⟩
  · exact ⟨_, ez, by decide, by decide⟩
  · exact ⟨_, ez, by decide, by decide⟩
  · exact ⟨_, ez, by decide, by decide⟩
  · exact ⟨_, ez, by decide, by decide⟩
theorem siz3 {r : Int} : ∃ n : Int, atI ([.int 2, .int 3, .int 65535] : List V) (r % 3) = some (.int n) ∧ (n = 2 ∨ n = 3 ∨ n = 65535) := by
  obtain ⟨z, hz, ez⟩ := pick_disp (vs := [.int 2, .int 3, .int 65535]) (r := r) (n := 3) rfl (by decide)
  simp only [List.mem_cons, List.not_mem_nil, or_false] at hz
  rcases hz with rfl | rfl | rfl
  · exact ⟨_, ez, .inl rfl⟩
  · exact ⟨_, ez, .inr (.inl rfl)⟩
  · exact ⟨_, ez, .inr (.inr rfl)⟩
theorem mod2 (r : Int) : r % 2 = 0 ∨ r % 2 = 1 := by omega
theorem ok_game (T : Txt K mg) : FnOk P w K mg base CX0 5 T.a_law_game T.fd_law_game ["script", "at"] (spGame K) := by
  have G_law_cell : FnOk P w K mg base CX0 1 T.a_law_cell T.fd_law_cell ["script", "k"] (spCell K) := ok_cell T
  have G_law_row : FnOk P w K mg base CX0 1 T.a_law_row T.fd_law_row ["cell", "count", "size"] spRow := ok_row T
  have G_law_value : FnOk P w K mg base CX0 2 T.a_law_value T.fd_law_value ["cell", "names", "variables", "tables"] (spSide K 3) := ok_value T
  have G_law_block : FnOk P w K mg base CX0 4 T.a_law_block T.fd_law_block ["cells", "names", "variables", "tables", "lots"] (spBlock K) := ok_block T
  refine T.F_law_game.ok sc_law_game (fun vs H Q E h => ?_) (fun cdv A outer s H vs Q E hr h => ?_)
  · obtain ⟨a, ns, k, rfl, _⟩ := h
    rfl
  obtain ⟨sa, ns, at_, rfl, hS, hat, q⟩ := h
  refine ⟨_, (pss_cons (ps_set (i := 2) sc_law_game.nd rfl (Or.inr rfl) (pe_call G_law_row (hr.mono (by decide)) rfl T.g_law_row T.k_law_row T.b_law_row .nil pass0 (pa_cons (pe_call G_law_cell (hr.mono (by decide)) rfl T.g_law_cell T.k_law_cell T.b_law_cell .nil pass0 (pa_cons (pv 0) (pa_cons (pv 1) pa_nil))) (pa_cons pe_int (pa_cons pe_int pa_nil)))))
    (pss_cons (ps_set (i := 3) sc_law_game.nd rfl (Or.inr rfl) (pe_slice sl_list (pe_lst (pa_cons pe_str (pa_cons pe_str pa_nil))) po_none (po_some (pe_op op_mod (pe_ix ix_list (pv 2) pe_int (fun _ _ => rfl)) pe_int))))
    (pss_cons (ps_set (i := 4) sc_law_game.nd rfl (Or.inr rfl) (pe_slice sl_list (pe_lst (pa_cons pe_str (pa_cons pe_str pa_nil))) po_none (po_some (pe_ix ix_tup (pe_tup (pa_cons pe_int (pa_cons pe_int (pa_cons pe_int (pa_cons pe_int (pa_cons pe_int pa_nil)))))) (pe_op op_mod (pe_ix ix_list (pv 2) pe_int (fun _ _ => rfl)) pe_int) (fun _ _ => rfl)))))
    (pss_cons (ps_set (i := 5) sc_law_game.nd rfl (Or.inl rfl) (pe_slice sl_list (pe_lst (pa_cons pe_str (pa_cons pe_str pa_nil))) po_none (po_some (pe_op op_mod (pe_ix ix_list (pv 2) pe_int (fun _ _ => rfl)) pe_int))))
    (pss_cons (ps_set (i := 6) sc_law_game.nd rfl (Or.inl rfl) (pe_lst pa_nil))
    (pss_cons (ps_for PassesOwn.never rfl (pi_range1 (by rfl) T.z_range (pa_cons (pe_op op_add pe_int (pe_op op_mod (pe_ix ix_list (pv 2) pe_int (fun _ _ => rfl)) pe_int)) pa_nil)) (pg_name (i := 7) sc_law_game.nd rfl (Or.inl rfl))
      (pss_cons (ps_set (i := 8) sc_law_game.nd rfl (Or.inl rfl) (pe_slice (slTB K rfl) (pe_tup (pa_cons pe_str (pa_cons pe_str (pa_cons pe_str pa_nil)))) po_none (po_some (pe_op op_add pe_int (pe_op op_mod (pe_ix ix_list (pv 2) (pe_op op_add pe_int (pv 7)) (fun _ _ => rfl)) pe_int)))))
    (pss_cons (ps_set (i := 9) sc_law_game.nd rfl (Or.inl rfl) (pe_call G_law_row (hr.mono (by decide)) rfl T.g_law_row T.k_law_row T.b_law_row .nil pass0 (pa_cons (pe_call G_law_cell (hr.mono (by decide)) rfl T.g_law_cell T.k_law_cell T.b_law_cell .nil pass0 (pa_cons (pv 0) (pa_cons (pe_op op_add (pe_op op_add (pv 1) pe_int) (pv 7)) pa_nil))) (pa_cons (pe_op op_add pe_int (pe_op op_mod (pe_ix ix_list (pv 2) (pe_op op_add pe_int (pv 7)) (fun _ _ => rfl)) pe_int)) (pa_cons (pe_op op_pow pe_int pe_int) pa_nil)))))
    (pss_cons (ps_set (i := 10) sc_law_game.nd rfl (Or.inl rfl) (pe_call G_law_block (hr.mono (by decide)) rfl T.g_law_block T.k_law_block T.b_law_block .nil pass0 (pa_cons (pv 9) (pa_cons (pv 8) (pa_cons (pv 3) (pa_cons (pv 4) (pa_cons (pv 5) pa_nil)))))))
    (pss_cons (ps_set (i := 11) sc_law_game.nd rfl (Or.inl rfl) (pe_call G_law_value (hr.mono (by decide)) rfl T.g_law_value T.k_law_value T.b_law_value .nil pass0 (pa_cons (pe_op op_add (pe_op op_mul (pe_ix ix_list (pv 2) (pe_op op_add pe_int (pv 7)) (fun _ _ => rfl)) pe_int) (pe_ix ix_list (pv 2) pe_int (fun _ _ => rfl))) (pa_cons (pv 8) (pa_cons (pv 3) (pa_cons (pv 4) pa_nil))))))
    (pss_one (ps_expr (pe_bm PySem.F.plainAttrs_list PySem.F.slot_list_append PySem.F.type_list_append mt_append (pv 6) (pa_cons (pe_tup (pa_cons (pe_ix ix_str pe_str (pv 7) (fun _ _ => rfl)) (pa_cons (pe_op op_add pe_int (pe_op op_mod (pe_ix ix_list (pv 2) (pe_op op_add pe_int (pv 7)) (fun _ _ => rfl)) pe_int)) (pa_cons (pe_op op_add pe_int (pe_op op_mod (pe_ix ix_list (pv 2) (pe_op op_add pe_int (pv 7)) (fun _ _ => rfl)) pe_int)) (pa_cons (pv 8) (pa_cons (pv 10) (pa_cons (pv 11) pa_nil))))))) pa_nil)))))))))
    (pss_cons (ps_set (i := 12) sc_law_game.nd rfl (Or.inl rfl) (pe_callTy call_tuple_of (by rfl) T.z_tuple (by decide +kernel) (pa_cons (pe_lc (own := [("k", 7)]) (g := gName 7) (tt := tYes) rfl sc_law_game.nd (pi_range1 (by rfl) T.z_range (pa_cons (pe_callB call_len_seq (by rfl) T.z_len (by decide +kernel) (pa_cons (pv 3) pa_nil)) pa_nil)) (blkOk_by (own := [("k", 7)]) (N := ["script", "at", "digits", "variables", "tables", "lots", "procs", "k", "names", "cells", "block", "result", "rows", "first", "name"]) (sc := defScope s_law_game) (by decide +kernel)) (fun _ _ _ _ _ => pg_name (i := 7) sc_law_game.nd rfl (Or.inl rfl)) (fun _ _ _ _ _ => pts_nil) (fun _ _ _ _ _ => (pe_tup (pa_cons (pe_ix (ixlK K rfl) (pv 3) (pv 7) (fun _ _ => rfl)) (pa_cons (pe_ix (ixtK K rfl) (pe_tup (pa_cons pe_int (pa_cons pe_int (pa_cons pe_int pa_nil)))) (pe_op op_mod (pe_ix (ixlK K rfl) (pv 2) pe_int (fun _ _ => rfl)) pe_int) (fun _ _ => rfl)) (pa_cons (pe_op op_mod (pe_ix (ixlK K rfl) (pv 2) (pe_op op_add pe_int (pv 7)) (fun _ _ => rfl)) pe_int) pa_nil)))))) pa_nil)))
    (pss_cons (ps_set (i := 13) sc_law_game.nd rfl (Or.inl rfl) (pe_callTy call_tuple_of (by rfl) T.z_tuple (by decide +kernel) (pa_cons (pe_lc (own := [("k", 7)]) (g := gName 7) (tt := tYes) rfl sc_law_game.nd (pi_range1 (by rfl) T.z_range (pa_cons (pe_callB call_len_seq (by rfl) T.z_len (by decide +kernel) (pa_cons (pv 4) pa_nil)) pa_nil)) (blkOk_by (own := [("k", 7)]) (N := ["script", "at", "digits", "variables", "tables", "lots", "procs", "k", "names", "cells", "block", "result", "rows", "first", "name"]) (sc := defScope s_law_game) (by decide +kernel)) (fun _ _ _ _ _ => pg_name (i := 7) sc_law_game.nd rfl (Or.inl rfl)) (fun _ _ _ _ _ => pts_nil) (fun _ _ _ _ _ => (pe_tup (pa_cons (pe_ix (ixlK K rfl) (pv 4) (pv 7) (fun _ _ => rfl)) (pa_cons (pe_op op_add pe_int (pe_op op_mod (pe_op op_add (pe_ix (ixlK K rfl) (pv 2) pe_int (fun _ _ => rfl)) (pv 7)) pe_int)) (pa_cons (pe_op op_add pe_int (pe_op op_mod (pe_ix (ixlK K rfl) (pv 2) pe_int (fun _ _ => rfl)) pe_int)) pa_nil)))))) pa_nil)))
    (pss_one (ps_ret (pe_tup (pa_cons (pv 12) (pa_cons (pv 13) (pa_cons (pe_callTy call_tuple_of (by rfl) T.z_tuple (by decide +kernel) (pa_cons (pe_lc (own := [("name", 14)]) (g := gName 14) (tt := tYes) rfl sc_law_game.nd (pi_list (pv 5)) (blkOk_by (own := [("name", 14)]) (N := ["script", "at", "digits", "variables", "tables", "lots", "procs", "k", "names", "cells", "block", "result", "rows", "first", "name"]) (sc := defScope s_law_game) (by decide +kernel)) (fun _ _ _ _ _ => pg_name (i := 14) sc_law_game.nd rfl (Or.inl rfl)) (fun _ _ _ _ _ => pts_nil) (fun _ _ _ _ _ => (pe_tup (pa_cons (pv 14) (pa_cons (pe_op op_add pe_int (pe_op op_mod (pe_ix (ixlK K rfl) (pv 2) pe_int (fun _ _ => rfl)) pe_int)) (pa_cons pe_int pa_nil)))))) pa_nil)) (pa_cons (pe_callTy call_tuple_of (by rfl) T.z_tuple (by decide +kernel) (pa_cons (pv 6) pa_nil)) pa_nil))))))))))))))), ?_⟩
  have zero : (0 : Nat) ≤ sizeLine := by decide
  have two : (2 : Nat) ≤ sizeLine := by decide
  have three : (3 : Nat) ≤ sizeLine := by decide
  have five : (5 : Nat) ≤ sizeLine := by decide
  have six : (6 : Nat) ≤ sizeLine := by decide
  refine ⟨_, rfl, _, rfl, sa, ns, at_, rfl, hS, hat, _, _, _, rfl, by decide, by decide, by decide, by decide, fun dl ds H1 m1 hd1 dlen db => ?_⟩
  have hdl : ds.length = 14 := dlen
  have dig : ∀ i : Int, 0 ≤ i → i < 14 → ∃ d ∈ ds, atI (ds.map V.int) i = some (.int d) := fun i h0 h1 => dig_at h0 (by rw [hdl]; exact h1)
  -- variables
  obtain ⟨d0, hd0, e0⟩ := dig 0 (by decide) (by decide)
  refine ⟨two, fun p2 hp2 => ?_⟩
  have m2 := same_new hp2 (.lst [.str "x", .str "y"])
  refine ⟨_, rfl, dl, _, _, _, rfl, rfl, SqL.of (m2 _ _ hd1), e0, _, _, rfl, rfl, (by show (0 : Int) < 3; decide), _, rfl, p2, _, rfl, SqL.of upd_same, fun vl hvl => ?_⟩
  have d03 : 0 ≤ d0 % 3 ∧ d0 % 3 ≤ 2 := ⟨Int.emod_nonneg _ (by decide), by have := Int.emod_lt_of_pos d0 (by decide : (0 : Int) < 3); omega⟩
  have m3 := m1.trans (m2.trans (same_new hvl (.lst (cutV [.str "x", .str "y"] none (some (d0 % 3))))))
  have hV : (upd (upd H1 p2 (.lst [.str "x", .str "y"])) vl (.lst (cutV [.str "x", .str "y"] none (some (d0 % 3))))) vl = some (.lst ((([("x" : Str), "y"]).take (d0 % 3).toNat).map V.str)) := by rw [upd_same, cut2 d03.1 d03.2]
  have hD3 := (m2.trans (same_new hvl (.lst (cutV [.str "x", .str "y"] none (some (d0 % 3)))))) _ _ hd1
  revert m3 hV hD3
  generalize upd (upd H1 p2 (.lst [.str "x", .str "y"])) vl (.lst (cutV [.str "x", .str "y"] none (some (d0 % 3)))) = H3
  intro m3 hV hD3
  have tv := take2 (a := "x") (b := "y") (d0 % 3).toNat (by omega)
  generalize ([("x" : Str), "y"]).take (d0 % 3).toNat = vars at *
  clear m2 hd1
  -- tables
  obtain ⟨d1, hd1, e1⟩ := dig 1 (by decide) (by decide)
  refine ⟨two, fun p4 hp4 => ?_⟩
  have m4 := same_new hp4 (.lst [.str "t", .str "m"])
  refine ⟨five, fun p5 hp5 => ?_⟩
  have m5 := m4.trans (same_new hp5 (.tup [.int 0, .int 1, .int 0, .int 1, .int 2]))
  obtain ⟨nt, ent, nt0, nt2⟩ := tab5 (r := d1)
  refine ⟨_, rfl, dl, _, _, _, rfl, rfl, SqL.of (m5 _ _ hD3), e1, _, _, rfl, rfl, (by show (0 : Int) < 5; decide), p5, _, _, _, rfl, rfl, SqT.of upd_same, ent, _, rfl, p4, _, rfl, SqL.of (same_new hp5 _ _ _ upd_same), fun tl htl => ?_⟩
  have m6' := m5.trans (same_new htl (.lst (cutV [.str "t", .str "m"] none (some nt))))
  have hT : (upd (upd (upd H3 p4 (.lst [.str "t", .str "m"])) p5 (.tup [.int 0, .int 1, .int 0, .int 1, .int 2])) tl (.lst (cutV [.str "t", .str "m"] none (some nt)))) tl = some (.lst ((([("t" : Str), "m"]).take nt.toNat).map V.str)) := by rw [upd_same, cut2 nt0 nt2]
  have m6 := m3.trans m6'
  have hD6 := m6' _ _ hD3
  have hV6 := m6' _ _ hV
  revert m6 hT hD6 hV6
  generalize upd (upd (upd H3 p4 (.lst [.str "t", .str "m"])) p5 (.tup [.int 0, .int 1, .int 0, .int 1, .int 2])) tl (.lst (cutV [.str "t", .str "m"] none (some nt))) = H6
  intro hT m6 hD6 hV6
  have tt := take2 (a := "t") (b := "m") nt.toNat (by omega)
  generalize ([("t" : Str), "m"]).take nt.toNat = tabs at *
  clear m6' m5 m4 hD3 hV m3
  -- lots
  obtain ⟨d2, hd2, e2⟩ := dig 2 (by decide) (by decide)
  refine ⟨two, fun p7 hp7 => ?_⟩
  have m7 := same_new hp7 (.lst [.str "o", .str "k"])
  have d23 : 0 ≤ d2 % 3 ∧ d2 % 3 ≤ 2 := ⟨Int.emod_nonneg _ (by decide), by have := Int.emod_lt_of_pos d2 (by decide : (0 : Int) < 3); omega⟩
  refine ⟨_, rfl, dl, _, _, _, rfl, rfl, SqL.of (m7 _ _ hD6), e2, _, _, rfl, rfl, (by show (0 : Int) < 3; decide), _, rfl, p7, _, rfl, SqL.of upd_same, fun ll hll => ?_⟩
  have m8' := m7.trans (same_new hll (.lst (cutV [.str "o", .str "k"] none (some (d2 % 3)))))
  have hL : (upd (upd H6 p7 (.lst [.str "o", .str "k"])) ll (.lst (cutV [.str "o", .str "k"] none (some (d2 % 3))))) ll = some (.lst ((([("o" : Str), "k"]).take (d2 % 3).toNat).map V.str)) := by rw [upd_same, cut2 d23.1 d23.2]
  have m8 := m6.trans m8'
  have hD8 := m8' _ _ hD6
  have hV8 := m8' _ _ hV6
  have hT8 := m8' _ _ hT
  revert m8 hL hD8 hV8 hT8
  generalize upd (upd H6 p7 (.lst [.str "o", .str "k"])) ll (.lst (cutV [.str "o", .str "k"] none (some (d2 % 3)))) = H8
  intro hL m8 hD8 hV8 hT8
  have tl' := take2 (a := "o") (b := "k") (d2 % 3).toNat (by omega)
  generalize ([("o" : Str), "k"]).take (d2 % 3).toNat = lots at *
  clear m8' m7 hD6 hV6 hT m6
  -- procs
  refine ⟨zero, fun pl hpl => ?_⟩
  obtain ⟨d3, hd3, e3⟩ := dig 3 (by decide) (by decide)
  have st9 := Acc.start (K := K) hpl
  refine ⟨_, rfl, dl, _, _, _, rfl, rfl, SqL.of (st9.s _ _ hD8), e3, _, _, rfl, rfl, (by show (0 : Int) < 2; decide), _, _, rfl, rfl, _, rfl, by have := mod2 d3; omega, by have := mod2 d3; omega, ?_⟩
  refine for_range (lo := 0) (n := (1 + d3 % 2).toNat) (fun i σ H' => ∃ (vs : List V) (ps : List Pr) (w1 w2 w3 w4 w5 w6 w7 w8 : Option V), σ = [some (.ref sa), some (.int at_), some (.ref dl), some (.ref vl), some (.ref tl), some (.ref ll), some (.ref pl), w1, w2, w3, w4, w5, w6, w7, w8] ∧
    Acc K H8 H' pl vs (ps.map Pr.d) ∧ ps.length = i ∧ ps.map (·.name) = ([("p" : Str), "r"]).take i ∧ ∀ p ∈ ps, (1 ≤ p.size ∧ p.size ≤ 3) ∧ (2 ≤ p.ans ∧ p.ans ≤ 4) ∧ (p.locs = ([("g" : Str), "a"] : List Str) ∨ p.locs = ([("g" : Str), "a", "b"] : List Str)) ∧
      p.block.Ok ⟨p.locs, vars, tabs, lots, []⟩ 3 2 ∧ (1 ≤ p.block.len ∧ p.block.len ≤ 4) ∧ p.res.Ok ⟨p.locs, vars, tabs, lots, []⟩ 3)
    ⟨[], [], none, none, none, none, none, none, none, none, rfl, st9, rfl, rfl, fun p hp => nomatch hp⟩ ?_ ?_
  · rintro i σ H9 hi ⟨vs, ps, w1, w2, w3, w4, w5, w6, w7, w8, rfl, ac, pn, pnm, pok⟩
    have hi2 : i = 0 ∨ i = 1 := by have := mod2 d3; omega
    have hD9 := ac.s _ _ hD8
    have hV9 := ac.s _ _ hV8
    have hT9 := ac.s _ _ hT8
    have hL9 := ac.s _ _ hL
    obtain ⟨d4, hd4, e4⟩ := dig (4 + (0 + (i : Int))) (by omega) (by omega)
    obtain ⟨d6, hd6, e6⟩ := dig (6 + (0 + (i : Int))) (by omega) (by omega)
    obtain ⟨d8, hd8, e8⟩ := dig (8 + (0 + (i : Int))) (by omega) (by omega)
    obtain ⟨d9, hd9, e9⟩ := dig 9 (by decide) (by decide)
    obtain ⟨d10, hd10, e10⟩ := dig (10 + (0 + (i : Int))) (by omega) (by omega)
    obtain ⟨d12, hd12, e12⟩ := dig (12 + (0 + (i : Int))) (by omega) (by omega)
    refine ⟨three, fun p10 hp10 => ?_⟩
    have n10 := same_new hp10 (.tup [.str "g", .str "a", .str "b"])
    refine ⟨_, rfl, _, rfl, _, _, rfl, rfl, dl, _, _, _, rfl, rfl, SqL.of (n10 _ _ hD9), e4, _, _, rfl, rfl, (by show (0 : Int) < 2; decide), _, _, rfl, rfl, _, rfl, p10, _, rfl, SqT.of upd_same, fun na H10 m10 hN => ?_⟩
    have nmx : ∃ nm : List Str, SqT K H10 na (nm.map V.str) ∧ (nm = ([("g" : Str), "a"] : List Str) ∨ nm = ([("g" : Str), "a", "b"] : List Str)) := by
      rcases cut3 (r := d4 % 2) (Int.emod_nonneg _ (by decide)) (Int.emod_lt_of_pos _ (by decide)) with e | e
      · exact ⟨_, e ▸ hN, .inl rfl⟩
      · exact ⟨_, e ▸ hN, .inr rfl⟩
    obtain ⟨nm, hNm, hnm⟩ := nmx
    have nm0 : nm ≠ [] := by rcases hnm with rfl | rfl <;> exact List.cons_ne_nil _ _
    have m910 := n10.trans m10
    -- cells
    have hS10 := (m8.trans (ac.s.trans m910)).seq hS
    have hD10 := m910 _ _ hD9
    refine ⟨_, rfl, _, rfl, _, _, rfl, rfl, _, rfl, _, _, rfl, rfl, sa, ns, _, rfl, hS10, by omega, ?_⟩
    refine ⟨_, rfl, _, rfl, _, _, rfl, rfl, dl, _, _, _, rfl, rfl, SqL.of hD10, e6, _, _, rfl, rfl, (by show (0 : Int) < 4; decide), _, _, rfl, rfl, _, _, rfl, rfl, ⟨by decide, by decide, by decide⟩, ?_⟩
    have d64 : 0 ≤ d6 % 4 ∧ d6 % 4 < 4 := ⟨Int.emod_nonneg _ (by decide), Int.emod_lt_of_pos _ (by decide)⟩
    refine ⟨_, _, _, rfl, by omega, by omega, by decide, by decide, fun cl cs H11 m11 hC clen cb => ?_⟩
    have hclen : cs.length = (1 + d6 % 4).toNat := clen
    -- block
    have m911 := m910.trans m11
    have hA : At K ⟨nm, vars, tabs, lots, []⟩ H11 na vl tl := ⟨sqT_mono m11 hNm, SqL.of (m911 _ _ hV9), SqL.of (m911 _ _ hT9), nm0⟩
    refine ⟨_, rfl, _, rfl, _, rfl, _, rfl, _, rfl, cl, na, vl, tl, ll, cs, ⟨nm, vars, tabs, lots, []⟩, rfl, SqL.of hC, by omega, hA, SqL.of (m911 _ _ hL9), fun bv b H12 m12 db ob lb => ?_⟩
    have m912 := m911.trans m12
    have hD12 := m912 _ _ hD9
    -- result
    refine ⟨_, rfl, _, rfl, _, _, rfl, rfl, dl, _, _, _, rfl, rfl, SqL.of hD12, e8, _, _, rfl, rfl, .inr ⟨by decide, by decide⟩, _, rfl, dl, _, _, _, rfl, rfl, SqL.of hD12, e9, _, _, rfl, rfl, ?_⟩
    refine ⟨_, rfl, _, rfl, _, rfl, _, na, vl, tl, ⟨nm, vars, tabs, lots, []⟩, rfl, hA.mono m12, fun rv e H13 m13 de oe => ?_⟩
    have m913 := m912.trans m13
    have hD13 := m913 _ _ hD9
    -- append
    refine ⟨_, rfl, .inl ⟨rfl, _, SqL.of (m913 _ _ ac.l)⟩, _, rfl, ?_⟩
    have nmi : ∃ c : Nat, atI (("pr" : Str).cps.toList) (0 + (i : Int)) = some c ∧ ([("p" : Str), "r"]).take (i + 1) = ([("p" : Str), "r"]).take i ++ [⟨#[c]⟩] := by
      rcases hi2 with rfl | rfl
      · exact ⟨112, rfl, rfl⟩
      · exact ⟨114, rfl, rfl⟩
    obtain ⟨c, ec, enm⟩ := nmi
    refine ⟨_, _, c, rfl, rfl, by decide, ec, ?_⟩
    have d103 : 0 ≤ d10 % 3 ∧ d10 % 3 < 3 := ⟨Int.emod_nonneg _ (by decide), Int.emod_lt_of_pos _ (by decide)⟩
    have d123 : 0 ≤ d12 % 3 ∧ d12 % 3 < 3 := ⟨Int.emod_nonneg _ (by decide), Int.emod_lt_of_pos _ (by decide)⟩
    refine ⟨_, rfl, _, rfl, _, _, rfl, rfl, dl, _, _, _, rfl, rfl, SqL.of hD13, e10, _, _, rfl, rfl, (by show (0 : Int) < 3; decide), _, _, rfl, rfl, ?_⟩
    refine ⟨_, rfl, _, rfl, _, _, rfl, rfl, dl, _, _, _, rfl, rfl, SqL.of hD13, e12, _, _, rfl, rfl, (by show (0 : Int) < 3; decide), _, _, rfl, rfl, ?_⟩
    refine ⟨_, rfl, _, rfl, _, rfl, six, fun p14 hp14 => ?_⟩
    have n14 := same_new hp14 (.tup [.str ⟨#[c]⟩, .int (1 + d10 % 3), .int (2 + d12 % 3), .ref na, bv, rv])
    have dpr : Dp K (upd H13 p14 (.tup [.str ⟨#[c]⟩, .int (1 + d10 % 3), .int (2 + d12 % 3), .ref na, bv, rv])) (.ref p14) (Pr.mk ⟨#[c]⟩ (1 + d10 % 3) (2 + d12 % 3) nm b e).d :=
      dp_tup hp14 (.cons (.str _) (.cons (.int _) (.cons (.int _) (.cons (.tup (sqT_mono (m11.trans (m12.trans m13)) hNm) (dp_strs nm)) (.cons (dp_mono m13 _ _ db) (.cons de .nil))))))
    have m914 := m913.trans n14
    have ac14 := (ac.grow m914).add dpr (Pr.nol _)
    refine ⟨pl, vs, _, rfl, rfl, m914 _ _ ac.l, by have := ac.len; rw [List.length_map] at this; exact small1000 (by omega), ?_⟩
    refine ⟨_, ps ++ [Pr.mk ⟨#[c]⟩ (1 + d10 % 3) (2 + d12 % 3) nm b e], _, _, _, _, _, _, _, _, rfl, by rw [List.map_append]; exact ac14, by rw [List.length_append, pn]; rfl, by rw [List.map_append, pnm, enm]; rfl, fun p hp => ?_⟩
    rcases List.mem_append.mp hp with z | z
    · exact pok p z
    · rw [List.mem_singleton.mp z]
      exact ⟨⟨by show 1 ≤ 1 + d10 % 3; omega, by show 1 + d10 % 3 ≤ 3; omega⟩, ⟨by show 2 ≤ 2 + d12 % 3; omega, by show 2 + d12 % 3 ≤ 4; omega⟩, hnm, ob, ⟨by rw [lb, hclen]; omega, by rw [lb, hclen]; omega⟩, oe⟩
  · rintro σ H9 ⟨vs, ps, w1, w2, w3, w4, w5, w6, w7, w8, rfl, ac, pn, pnm, pok⟩
    have hD9 := ac.s _ _ hD8
    have hV9 := ac.s _ _ hV8
    have hT9 := ac.s _ _ hT8
    have hL9 := ac.s _ _ hL
    have lv : vars.length ≤ 2 := by rcases tv with h | h | h <;> rw [h] <;> decide
    have lt : tabs.length ≤ 2 := by rcases tt with h | h | h <;> rw [h] <;> decide
    have ll2 : lots.length ≤ 2 := by rcases tl' with h | h | h <;> rw [h] <;> decide
    -- rows
    obtain ⟨d5, hd5, e5⟩ := dig 5 (by decide) (by decide)
    refine ⟨_, rfl, vl, _, rfl, .inl (SqL.of hV9), _, rfl, by omega, by rw [List.length_map]; omega, fun D hD => ?_⟩
    refine lc_range (lo := 0) (n := _) (fun i H' => ∃ (vs : List V) (ts : List (Str × Int × Int)), Acc K H9 H' D vs (ts.map trip) ∧ ts.length = i ∧ ts.map (·.1) = vars.take i ∧ ∀ t ∈ ts, (t.2.1 = 2 ∨ t.2.1 = 3 ∨ t.2.1 = 65535) ∧ (t.2.2 = 0 ∨ t.2.2 = 1))
      ⟨[], [], Acc.start hD, rfl, rfl, fun t ht => nomatch ht⟩ ?_ ?_
    · rintro i H10 hi ⟨us, ts, a10, tn, tnm, tok⟩
      obtain ⟨x, hx, ex⟩ := str_at hi
      rw [List.length_map] at hi
      obtain ⟨d7, hd7, e7⟩ := dig (7 + (0 + (i : Int))) (by omega) (by omega)
      obtain ⟨z, ez, hz⟩ := siz3 (r := d5)
      refine ⟨rfl, ?_⟩
      refine ⟨_, rfl, _, rfl, vl, _, _, _, rfl, rfl, SqL.of (a10.s _ _ hV9), ex, three, fun p11 hp11 => ?_⟩
      have n11 := same_new hp11 (.tup [.int 2, .int 3, .int 65535])
      refine ⟨_, rfl, dl, _, _, _, rfl, rfl, SqL.of (n11 _ _ (a10.s _ _ hD9)), e5, _, _, rfl, rfl, (by show (0 : Int) < 3; decide), p11, _, _, _, rfl, rfl, SqT.of upd_same, ez, ?_⟩
      refine ⟨_, rfl, _, rfl, _, _, rfl, rfl, dl, _, _, _, rfl, rfl, SqL.of (n11 _ _ (a10.s _ _ hD9)), e7, _, _, rfl, rfl, (by show (0 : Int) < 2; decide), three, fun p12 hp12 => ?_⟩
      have n12 := n11.trans (same_new hp12 (.tup [.str x, .int z, .int (d7 % 2)]))
      have dt : Dp K _ (.ref p12) (trip (x, z, d7 % 2)) := dp_tup hp12 (.cons (.str _) (.cons (.int _) (.cons (.int _) .nil)))
      have a12 := (a10.grow n12).add dt rfl
      refine ⟨us, (a10.grow n12).l, by have := a10.len; rw [List.length_map] at this; exact small1000 (by omega), _, ts ++ [(x, z, d7 % 2)], by rw [List.map_append]; exact a12, by rw [List.length_append, tn]; rfl, by rw [List.map_append, tnm, take_more hx]; rfl, fun t ht => ?_⟩
      rcases List.mem_append.mp ht with h | h
      · exact tok t h
      · rw [List.mem_singleton.mp h]
        exact ⟨hz, mod2 d7⟩
    rintro H10 ⟨us, ts, a10, tn, tnm, tok⟩
    have tnm' : ts.map (·.1) = vars := by rw [tnm, List.length_map, Int.toNat_natCast, List.take_length]
    refine ⟨D, us, rfl, .inl ⟨SqL.of a10.l, fun rp hrp => ?_⟩⟩
    have drows : Dp K (upd H10 rp (.tup us)) (.ref rp) (trips ts) := dp_tup hrp a10.d
    have m911 := a10.s.trans (same_new hrp (.tup us))
    revert drows m911
    generalize upd H10 rp (.tup us) = H11
    intro drows m911
    clear a10 tnm hD
    -- first
    obtain ⟨d11, hd11, e11⟩ := dig 11 (by decide) (by decide)
    obtain ⟨d13, hd13, e13⟩ := dig 13 (by decide) (by decide)
    have hD11 := m911 _ _ hD9
    have hT11 := m911 _ _ hT9
    refine ⟨_, rfl, tl, _, rfl, .inl (SqL.of hT11), _, rfl, by omega, by rw [List.length_map]; omega, fun D2 hD2 => ?_⟩
    refine lc_range (lo := 0) (n := _) (fun i H' => ∃ (vs : List V) (ss : List (Str × Int × Int)), Acc K H11 H' D2 vs (ss.map trip) ∧ ss.length = i ∧ ss.map (·.1) = tabs.take i ∧ ∀ t ∈ ss, (t.2.1 = 2 ∨ t.2.1 = 3) ∧ (t.2.2 = 2 ∨ t.2.2 = 3))
      ⟨[], [], Acc.start hD2, rfl, rfl, fun t ht => nomatch ht⟩ ?_ ?_
    · rintro i H12 hi ⟨us2, ss, a12, sn, snm, sok⟩
      obtain ⟨x, hx, ex⟩ := str_at hi
      rw [List.length_map] at hi
      refine ⟨rfl, ?_⟩
      refine ⟨_, rfl, _, rfl, tl, _, _, _, rfl, rfl, SqL.of (a12.s _ _ hT11), ex, ?_⟩
      refine ⟨_, rfl, dl, _, _, _, rfl, rfl, SqL.of (a12.s _ _ hD11), e11, _, rfl, _, _, rfl, rfl, _, _, rfl, rfl, (by show (0 : Int) < 2; decide), _, _, rfl, rfl, ?_⟩
      refine ⟨_, rfl, dl, _, _, _, rfl, rfl, SqL.of (a12.s _ _ hD11), e13, _, _, rfl, rfl, (by show (0 : Int) < 2; decide), _, _, rfl, rfl, three, fun p13 hp13 => ?_⟩
      have n13 := same_new hp13 (.tup [.str x, .int (2 + (d11 + (0 + (i : Int))) % 2), .int (2 + d13 % 2)])
      have dt : Dp K _ (.ref p13) (trip (x, 2 + (d11 + (0 + (i : Int))) % 2, 2 + d13 % 2)) := dp_tup hp13 (.cons (.str _) (.cons (.int _) (.cons (.int _) .nil)))
      have a13 := (a12.grow n13).add dt rfl
      refine ⟨us2, (a12.grow n13).l, by have := a12.len; rw [List.length_map] at this; exact small1000 (by omega), _, ss ++ [(x, 2 + (d11 + (0 + (i : Int))) % 2, 2 + d13 % 2)], by rw [List.map_append]; exact a13, by rw [List.length_append, sn]; rfl, by rw [List.map_append, snm, take_more hx]; rfl, fun t ht => ?_⟩
      rcases List.mem_append.mp ht with h | h
      · exact sok t h
      · rw [List.mem_singleton.mp h]
        refine ⟨?_, ?_⟩
        · show 2 + (d11 + (0 + (i : Int))) % 2 = 2 ∨ 2 + (d11 + (0 + (i : Int))) % 2 = 3
          omega
        · show 2 + d13 % 2 = 2 ∨ 2 + d13 % 2 = 3
          omega
    rintro H12 ⟨us2, ss, a12, sn, snm, sok⟩
    have snm' : ss.map (·.1) = tabs := by rw [snm, List.length_map, Int.toNat_natCast, List.take_length]
    refine ⟨D2, us2, rfl, .inl ⟨SqL.of a12.l, fun fp hfp => ?_⟩⟩
    have dfirst : Dp K (upd H12 fp (.tup us2)) (.ref fp) (trips ss) := dp_tup hfp a12.d
    have m1113 := a12.s.trans (same_new hfp (.tup us2))
    have drows13 := dp_mono m1113 _ _ drows
    have m913 := m911.trans m1113
    revert dfirst m1113 drows13 m913
    generalize upd H12 fp (.tup us2) = H13
    intro dfirst m1113 drows13 m913
    clear a12 snm hD2 drows
    -- lots and procs
    obtain ⟨d12, hd12, e12⟩ := dig 12 (by decide) (by decide)
    have hD13 := m913 _ _ hD9
    have hL13 := m913 _ _ hL9
    refine ⟨_, rfl, _, rfl, _, rfl, ll, rfl, ⟨_, SqL.of hL13⟩, fun D3 hD3 => ?_⟩
    refine lc_list (K := K) (a := ll) (xs := lots.map V.str) (fun i H' => ∃ (vs : List V) (qs : List (Str × Int × Int)), Acc K H13 H' D3 vs (qs.map trip) ∧ qs.length = i ∧ qs.map (·.1) = lots.take i ∧ ∀ t ∈ qs, (t.2.1 = 2 ∨ t.2.1 = 3) ∧ t.2.2 = 2)
      ⟨[], [], Acc.start hD3, rfl, rfl, fun t ht => nomatch ht⟩ (fun i H' _ ⟨_, _, a, _⟩ => SqL.of (a.s _ _ hL13)) ?_ ?_
    · rintro i y H14 hy ⟨us3, qs, a14, qn, qnm, qok⟩
      obtain ⟨x, hx, rfl⟩ : ∃ x, lots[i]? = some x ∧ y = V.str x := by
        rw [List.getElem?_map] at hy
        cases e : lots[i]? with
        | none => rw [e] at hy; cases hy
        | some z => rw [e] at hy; exact ⟨z, rfl, (Option.some.inj hy).symm⟩
      have hi : i < lots.length := (List.getElem?_eq_some_iff.mp hx).1
      refine ⟨rfl, ?_⟩
      refine ⟨_, rfl, _, rfl, dl, _, _, _, rfl, rfl, SqL.of (a14.s _ _ hD13), e12, _, _, rfl, rfl, (by show (0 : Int) < 2; decide), _, _, rfl, rfl, three, fun p15 hp15 => ?_⟩
      have n15 := same_new hp15 (.tup [.str x, .int (2 + d12 % 2), .int 2])
      have dt : Dp K _ (.ref p15) (trip (x, 2 + d12 % 2, 2)) := dp_tup hp15 (.cons (.str _) (.cons (.int _) (.cons (.int _) .nil)))
      have a15 := (a14.grow n15).add dt rfl
      refine ⟨us3, (a14.grow n15).l, by have := a14.len; rw [List.length_map] at this; exact small1000 (by omega), _, qs ++ [(x, 2 + d12 % 2, 2)], by rw [List.map_append]; exact a15, by rw [List.length_append, qn]; rfl, by rw [List.map_append, qnm, take_more hx]; rfl, fun t ht => ?_⟩
      rcases List.mem_append.mp ht with h | h
      · exact qok t h
      · rw [List.mem_singleton.mp h]
        refine ⟨?_, rfl⟩
        show 2 + d12 % 2 = 2 ∨ 2 + d12 % 2 = 3
        omega
    rintro H14 ⟨us3, qs, a14, qn, qnm, qok⟩
    have qnm' : qs.map (·.1) = lots := by rw [qnm, List.length_map, List.take_length]
    refine ⟨D3, us3, rfl, .inl ⟨SqL.of a14.l, fun lp hlp => ?_⟩⟩
    have dlots : Dp K (upd H14 lp (.tup us3)) (.ref lp) (trips qs) := dp_tup hlp a14.d
    have m1315 := a14.s.trans (same_new hlp (.tup us3))
    have m915 := m913.trans m1315
    have ac15 := ac.grow m915
    refine ⟨_, rfl, pl, vs, rfl, .inl ⟨SqL.of ac15.l, fun pp hpp => ?_⟩⟩
    have n16 := same_new hpp (.tup vs)
    have dprocs := dp_tup (K := K) hpp ac15.d
    refine ⟨by show 4 ≤ sizeLine; decide, fun gp hgp => ?_⟩
    have n17 := same_new hgp (.tup [.ref rp, .ref fp, .ref lp, .ref pp])
    have n1617 := n16.trans n17
    refine q _ ⟨ts, ss, qs, ps⟩ _ (m8.trans (ac.s.trans (m915.trans n1617))) ?_ ⟨by rw [tnm']; exact tv, tok, by rw [snm']; exact tt, sok, by rw [qnm']; exact tl', qok, ?_, ?_⟩
    · exact dp_tup hgp (.cons (dp_mono (m1315.trans n16) _ _ drows13) (.cons (dp_mono (m1315.trans n16) _ _ dfirst) (.cons (dp_mono n16 _ _ dlots) (.cons dprocs .nil))))
    · show ps.map (·.name) = ([("p" : Str)] : List Str) ∨ ps.map (·.name) = ([("p" : Str), "r"] : List Str)
      rw [pnm]
      rcases mod2 d3 with h | h <;> rw [h]
      · exact .inl rfl
      · exact .inr rfl
    · intro p hp
      obtain ⟨a1, a2, a3, a4, a5, a6⟩ := pok p hp
      have esc : (Ga.mk ts ss qs ps).sc p.locs [] = ⟨p.locs, vars, tabs, lots, []⟩ := by
        show Sc.mk p.locs (ts.map (·.1)) (ss.map (·.1)) (qs.map (·.1)) [] = _
        rw [tnm', snm', qnm']
      exact ⟨a1, a2, a3, by rw [esc]; exact a4, a5, by rw [esc]; exact a6⟩
end
end Toy
set_option Elab.async false
set_option linter.all false
set_option maxRecDepth 100000
set_option maxHeartbeats 4000000
namespace Toy
open PySem L2 Gm
open Mine (ite_no ite_yes same_make op_repA pe_scG keyKind tScG call_len_setK pi_seqK iSeq)
/-! ### a game's attributes -/
theorem g1_ : ¬ (("variables" : Str) = "tables") := by decide +kernel
theorem g2_ : ¬ (("variables" : Str) = "lots") := by decide +kernel
theorem g3_ : ¬ (("variables" : Str) = "procs") := by decide +kernel
theorem g4_ : ¬ (("tables" : Str) = "lots") := by decide +kernel
theorem g5_ : ¬ (("tables" : Str) = "procs") := by decide +kernel
theorem g6_ : ¬ (("lots" : Str) = "procs") := by decide +kernel
def gf (a b c d : V) : List (Str × V) := putF "procs" d (putF "lots" c (putF "tables" b (putF "variables" a [])))
section
variable (a b c d : V)
theorem gf_procs : (gf a b c d).lookup ("procs" : Str) = some d := by unfold gf; rw [lookup_putF, if_pos rfl]
theorem gf_no {m : Str} (h1 : ¬ m = "variables") (h2 : ¬ m = "tables") (h3 : ¬ m = "lots") (h4 : ¬ m = "procs") : (gf a b c d).lookup m = none := by
  unfold gf
  rw [lookup_putF, if_neg h4, lookup_putF, if_neg h3, lookup_putF, if_neg h2, lookup_putF, if_neg h1]
  all_goals rfl
end
/-- tuples whose first items are these names -/
def HeadsAt (K : PySem.W.Frag) (H : Hp) (xs : List V) (names : List Str) : Prop := xs.length = names.length ∧ ∀ (i : Nat) (n : Str), names[i]? = some n → ∃ (a : Addr) (rest : List V), xs[i]? = some (V.ref a) ∧ SqT K H a (.str n :: rest)
/-- a Game whose procedures have these names -/
def GmAt (K : PySem.W.Frag) (C : Addr) (H : Hp) (g : Addr) (names : List Str) : Prop := ∃ dx a b c pa xs, H g = some (.ins C dx (gf a b c (.ref pa))) ∧ SqT K H pa xs ∧ HeadsAt K H xs names
theorem HeadsAt.same {K : PySem.W.Frag} {H H' : Hp} {xs : List V} {names : List Str} (h : HeadsAt K H xs names) (s : Same H H') : HeadsAt K H' xs names := ⟨h.1, fun i n e => let ⟨a, r, x, y⟩ := h.2 i n e; ⟨a, r, x, sqT_mono s y⟩⟩
theorem GmAt.same {K : PySem.W.Frag} {C : Addr} {H H' : Hp} {g : Addr} {names : List Str} (h : GmAt K C H g names) (s : Same H H') : GmAt K C H' g names :=
  let ⟨dx, a, b, c, pa, xs, h1, h2, h3⟩ := h
  ⟨dx, a, b, c, pa, xs, s _ _ h1, sqT_mono s h2, h3.same s⟩
/-! ### the promises of the program -/
def spGInit (C : Addr) : Sp := fun vs H Q _ => ∃ (p dx : Addr) (a b c d : V), vs = [.ref p, a, b, c, d] ∧ H p = some (.ins C dx []) ∧ ∀ H', H' p = some (.ins C dx (gf a b c d)) → (∀ x o, H x = some o → x ≠ p → H' x = some o) → Q .non H'
def spProc (K : PySem.W.Frag) (C : Addr) : Sp := fun vs H Q _ => ∃ (g : Addr) (n : Str) (names : List Str), vs = [.ref g, .str n] ∧ GmAt K C H g names ∧ (n ∉ names → Q .non H) ∧ (n ∈ names → ∀ a, Q (.ref a) H)
def spParts0 (K : PySem.W.Frag) : Sp := fun vs H Q _ => ∃ (v : V) (p : Pl), vs = [v] ∧ Dp K H v p.d ∧ p.kids.length ≤ 1000 ∧
  ∀ (l : Addr) (H' : Hp) (ys : List V), H l = none → Same H H' → H' l = some (.lst ys) → DpAll K H ys (p.kids.map Pl.d) → Q (.ref l) H'
def spCAsk (K : PySem.W.Frag) (C B : Addr) : Sp := fun vs H Q E => ∃ (g : Addr) (v : V) (names : List Str) (p : Str) (n : Int) (parts : List (Int × Pl)), vs = [.ref g, v] ∧ GmAt K C H g names ∧ Dp K H v (Pl.ask p n parts).d ∧ parts.length ≤ 1000 ∧ p.length ≤ 1000 ∧
  (headOk names (.ask p n parts) = true → ∀ H', Same H H' → Q .non H') ∧ (headOk names (.ask p n parts) = false → ∀ H', Same H H' → E (.ref B) none H')
def spBelowK (K : PySem.W.Frag) (C B : Addr) (k : Nat) : Sp := fun vs H Q E => ∃ (g : Addr) (v : V) (names : List Str) (p : Pl), vs = [.ref g, v, .int (k : Nat)] ∧ GmAt K C H g names ∧ Dp K H v p.d ∧ p.Short ∧ p.Lay 60 ∧
  (chk names k p = true → ∀ H', Same H H' → Q .non H') ∧ (chk names k p = false → ∀ H', Same H H' → E (.ref B) none H')
def spCheck (K : PySem.W.Frag) (C B : Addr) : Sp := fun vs H Q E => ∃ (g : Addr) (v : V) (names : List Str) (p : Pl), vs = [.ref g, v] ∧ GmAt K C H g names ∧ Dp K H v p.d ∧ p.Short ∧ p.Lay 60 ∧
  (chk names 8 p = true → ∀ H', Same H H' → Q .non H') ∧ (chk names 8 p = false → ∀ H', Same H H' → E (.ref B) none H')
theorem dp_inv {K : PySem.W.Frag} {H : Hp} {v : V} {ds : List PyData} (h : Dp K H v (.tuple ds)) : ∃ a xs, v = .ref a ∧ SqT K H a xs ∧ DpAll K H xs ds := by
  cases h with
  | tup hs ha => exact ⟨_, _, rfl, hs, ha⟩
section
variable {K : PySem.W.Frag} {H : Hp} {v : V}
theorem dps_cons {vs : List V} {d : PyData} {ds : List PyData} (h : DpAll K H vs (d :: ds)) : ∃ u r, vs = u :: r ∧ Dp K H u d ∧ DpAll K H r ds := by
  cases h with
  | cons h1 h2 => exact ⟨_, _, rfl, h1, h2⟩
theorem dps_nil {vs : List V} (h : DpAll K H vs []) : vs = [] := by
  cases h
  rfl
theorem dp_s {x : Str} (h : Dp K H v (.str x)) : v = .str x := by
  cases h
  rfl
theorem dp_i {x : Int} (h : Dp K H v (.int x)) : v = .int x := by
  cases h
  rfl
theorem dp_b {x : Bool} (h : Dp K H v (.bool x)) : v = .bl x := by
  cases h
  rfl
theorem two_inv {d e : PyData} (h : Dp K H v (.tuple [d, e])) : ∃ (a : Addr) (u z : V), v = .ref a ∧ SqT K H a [u, z] ∧ Dp K H u d ∧ Dp K H z e := by
  obtain ⟨a, xs, rfl, hs, dx⟩ := dp_inv h
  obtain ⟨u, r, rfl, d1, d2⟩ := dps_cons dx
  obtain ⟨z, r, rfl, d3, d4⟩ := dps_cons d2
  have e := dps_nil d4
  subst e
  exact ⟨a, u, z, rfl, hs, d1, d3⟩
theorem four_inv {d e f g : PyData} (h : Dp K H v (.tuple [d, e, f, g])) : ∃ (a : Addr) (u z y x : V), v = .ref a ∧ SqT K H a [u, z, y, x] ∧ Dp K H u d ∧ Dp K H z e ∧ Dp K H y f ∧ Dp K H x g := by
  obtain ⟨a, xs, rfl, hs, dx⟩ := dp_inv h
  obtain ⟨u, r, rfl, d1, d2⟩ := dps_cons dx
  obtain ⟨z, r, rfl, d3, d4⟩ := dps_cons d2
  obtain ⟨y, r, rfl, d5, d6⟩ := dps_cons d4
  obtain ⟨x, r, rfl, d7, d8⟩ := dps_cons d6
  have e := dps_nil d8
  subst e
  exact ⟨a, u, z, y, x, rfl, hs, d1, d3, d5, d7⟩
theorem say_inv {b : Bool} (h : Dp K H v (Pl.say b).d) : ∃ a : Addr, v = .ref a ∧ SqT K H a [.str "say", .bl b] := by
  rw [Pl.d_say] at h
  obtain ⟨a, u, z, rfl, hs, d1, d2⟩ := two_inv h
  rw [dp_s d1, dp_b d2] at hs
  exact ⟨a, rfl, hs⟩
theorem ask_inv {p : Str} {n : Int} {parts : List (Int × Pl)} (h : Dp K H v (Pl.ask p n parts).d) : ∃ (a pa : Addr) (ys : List V), v = .ref a ∧ SqT K H a [.str "ask", .str p, .int n, .ref pa] ∧ SqT K H pa ys ∧ DpAll K H ys (parts.map partD) := by
  rw [Pl.d_ask] at h
  obtain ⟨a, u, z, y, x, rfl, hs, d1, d2, d3, d4⟩ := four_inv h
  obtain ⟨pa, ys, rfl, h1, h2⟩ := dp_inv d4
  rw [dp_s d1, dp_s d2, dp_i d3] at hs
  exact ⟨a, pa, ys, rfl, hs, h1, h2⟩
theorem toss_inv {ps : List Pl} (h : Dp K H v (Pl.toss ps).d) : ∃ (a pa : Addr) (ys : List V), v = .ref a ∧ SqT K H a [.str "toss", .ref pa] ∧ SqT K H pa ys ∧ DpAll K H ys (ps.map Pl.d) := by
  rw [Pl.d_toss] at h
  obtain ⟨a, u, z, rfl, hs, d1, d2⟩ := two_inv h
  obtain ⟨pa, ys, rfl, h1, h2⟩ := dp_inv d2
  rw [dp_s d1] at hs
  exact ⟨a, pa, ys, rfl, hs, h1, h2⟩
theorem part_inv {q : Int × Pl} (h : Dp K H v (partD q)) : ∃ (a : Addr) (u : V), v = .ref a ∧ SqT K H a [.int q.1, u] ∧ Dp K H u q.2.d := by
  obtain ⟨a, u, z, rfl, hs, d1, d2⟩ := two_inv h
  rw [dp_i d1] at hs
  exact ⟨a, z, rfl, hs, d2⟩
end
theorem units65 {k : Nat} {A : Around} (hr : Room k A) : A.units + 65 < cLine := by have := hr.un; omega
section
variable {P : Program} {w : World} {K : PySem.W.Frag} {mg : Str → Option Value} {base : Heap}
theorem ok_ginit (T : Txt K mg) : FnOk P w K mg base CX0 1 T.a_Game_init T.fd_Game_init ["self", "variables", "tables", "lots", "procs"] (spGInit T.C_Game) := by
  refine T.F_Game_init.ok sc_Game_init (fun vs H Q E h => ?_) (fun cdv A outer s H vs Q E hr h => ?_)
  · obtain ⟨p, dx, a, b, c, d, rfl, _⟩ := h
    rfl
  obtain ⟨p, dx, a, b, c, d, rfl, hp, k⟩ := h
  refine ⟨_, (pss_cons (ps_fld (pv 0) (pv 1) rfl)
    (pss_cons (ps_fld (pv 0) (pv 2) rfl)
    (pss_cons (ps_fld (pv 0) (pv 3) rfl)
    (pss_one (ps_fld (pv 0) (pv 4) rfl))))), ?_⟩
  refine ⟨_, rfl, _, rfl, p, T.C_Game, dx, [], rfl, hp, T.cl_Game, T.na_Game_variables, (by show 0 < 1000; decide), ?_⟩
  refine ⟨_, rfl, _, rfl, p, T.C_Game, dx, _, rfl, upd_same, T.cl_Game, T.na_Game_tables, (by show 1 < 1000; decide), ?_⟩
  refine ⟨_, rfl, _, rfl, p, T.C_Game, dx, _, rfl, upd_same, T.cl_Game, T.na_Game_lots, (by show 2 < 1000; decide), ?_⟩
  refine ⟨_, rfl, _, rfl, p, T.C_Game, dx, _, rfl, upd_same, T.cl_Game, T.na_Game_procs, (by show 3 < 1000; decide), ?_⟩
  refine k _ upd_same fun x o e hx => ?_
  rw [upd_ne hx, upd_ne hx, upd_ne hx, upd_ne hx]
  exact e
theorem ok_gproc (T : Txt K mg) : FnOk P w K mg base CX0 1 T.a_Game_proc T.fd_Game_proc ["self", "name"] (spProc K T.C_Game) := by
  refine T.F_Game_proc.ok sc_Game_proc (fun vs H Q E h => ?_) (fun cdv A outer s H vs Q E hr h => ?_)
  · obtain ⟨g, n, names, rfl, _⟩ := h
    rfl
  obtain ⟨g, n, names, rfl, ⟨dx, a, b, c, pa, xs, hg, hpa, hh⟩, k0, k1⟩ := h
  refine ⟨_, (pss_cons (ps_for PassesOwn.never rfl (pi_tup (pe_fld (pv 0) rfl)) (pg_name (i := 2) sc_Game_proc.nd rfl (Or.inl rfl))
      (pss_one (ps_if (pt_cmpR op_eq (pe_ix ix_tup (pv 2) pe_int (fun _ _ => rfl)) (pv 1) (nomark _))
      (pss_one (ps_ret (pv 2)))
      pss_nil)))
    (pss_one (ps_ret pe_non))), ?_⟩
  refine ⟨_, rfl, g, _, dx, _, _, rfl, hg, T.cl_Game, T.na_Game_procs, gf_procs _ _ _ _, pa, rfl, ⟨_, hpa⟩, ?_⟩
  refine for_tup (K := K) (a := pa) (xs := xs) (fun i σ H' => H' = H ∧ (∃ y, σ = [some (.ref g), some (.str n), y]) ∧ n ∉ names.take i) ⟨rfl, ⟨none, rfl⟩, by simp⟩ (fun i σ H' _ h => by rw [h.1]; exact hpa) ?_ ?_
  · rintro i v σ H' hv ⟨rfl, ⟨y, rfl⟩, hn⟩
    have hi := (List.getElem?_eq_some_iff.mp hv).1
    obtain ⟨m, em⟩ : ∃ m, names[i]? = some m := ⟨names[i]'(hh.1 ▸ hi), List.getElem?_eq_getElem _⟩
    obtain ⟨t, rest, et, ht⟩ := hh.2 i m em
    rw [et] at hv
    cases hv
    refine ⟨_, rfl, t, _, 0, V.str m, rfl, rfl, ht, atI_nat (j := 0) rfl, _, rfl, rfl, _, rfl, ite2 (fun z => ?_) (fun z => ?_)⟩
    · have z' : m = n := V.str.inj (of_decide_eq_true z)
      subst z'
      exact ⟨_, rfl, k1 (List.mem_of_getElem? em) _⟩
    · have z' : ¬ m = n := fun y => z (decide_eq_true (congrArg V.str y))
      refine ⟨rfl, ⟨_, rfl⟩, ?_⟩
      rw [take_more em, List.mem_append, List.mem_singleton]
      rintro (q | q)
      · exact hn q
      · exact z' q.symm
  · rintro σ H' ⟨rfl, ⟨y, rfl⟩, hn⟩
    rw [hh.1, List.take_length] at hn
    exact k0 hn
theorem ok_parts (T : Txt K mg) : FnOk P w K mg base CX0 1 T.a_parts_of T.fd_parts_of ["player"] (spParts0 K) := by
  refine T.F_parts_of.ok sc_parts_of (fun vs H Q E h => ?_) (fun cdv A outer s H vs Q E hr h => ?_)
  · obtain ⟨v, p, rfl, _⟩ := h
    rfl
  obtain ⟨v, p, rfl, dv, hl, k⟩ := h
  refine ⟨_, (pss_cons (ps_if (pt_cmpR op_eq (pe_ix ix_tup (pv 0) pe_int (fun _ _ => rfl)) pe_str (nomark _))
      (pss_one (ps_ret (pe_lc (own := [("part", 1)]) (g := gName 1) (tt := tYes) rfl sc_parts_of.nd (pi_tup (pe_ix ix_tup (pv 0) pe_int (fun _ _ => rfl))) (blkOk_by (own := [("part", 1)]) (N := ["player", "part"]) (sc := defScope s_parts_of) (by decide +kernel)) (fun _ _ _ _ _ => pg_name (i := 1) sc_parts_of.nd rfl (Or.inl rfl)) (fun _ _ _ _ _ => pts_nil) (fun _ _ _ _ _ => (pe_ix (ixtK K rfl) (pv 1) pe_int (fun _ _ => rfl))))))
      pss_nil)
    (pss_cons (ps_if (pt_cmpR op_eq (pe_ix ix_tup (pv 0) pe_int (fun _ _ => rfl)) pe_str (nomark _))
      (pss_one (ps_ret (pe_callTy call_list_of (by rfl) T.z_list (by decide +kernel) (pa_cons (pe_ix ix_tup (pv 0) pe_int (fun _ _ => rfl)) pa_nil))))
      pss_nil)
    (pss_one (ps_ret (pe_lst pa_nil))))), ?_⟩
  have na : ¬ (V.str ("say" : Str) = V.str "ask") := fun z => absurd (V.str.inj z) (by decide +kernel)
  have nt : ¬ (V.str ("say" : Str) = V.str "toss") := fun z => absurd (V.str.inj z) (by decide +kernel)
  have nk : ¬ (V.str ("toss" : Str) = V.str "ask") := fun z => absurd (V.str.inj z) (by decide +kernel)
  cases p with
  | say b =>
    obtain ⟨a, rfl, hs⟩ := say_inv dv
    refine ⟨_, rfl, a, _, _, _, rfl, rfl, hs, rfl, rfl, _, rfl, ite_no (fun z => na (of_decide_eq_true z)) ?_⟩
    refine ⟨_, rfl, a, _, _, _, rfl, rfl, hs, rfl, rfl, _, rfl, ite_no (fun z => nt (of_decide_eq_true z)) ?_⟩
    exact ⟨(by show 0 ≤ sizeLine; decide), fun l hln => k l _ [] hln (same_new hln _) upd_same .nil⟩
  | ask s n parts =>
    obtain ⟨a, pa, ys, rfl, hs, hpa, dp⟩ := ask_inv dv
    refine ⟨_, rfl, a, _, _, _, rfl, rfl, hs, rfl, rfl, _, rfl, ite_yes (decide_eq_true rfl) ?_⟩
    refine ⟨_, rfl, a, _, _, _, rfl, rfl, hs, rfl, pa, rfl, ⟨_, hpa⟩, fun D hD => ?_⟩
    have ly : ys.length = parts.length := by rw [DpAll.len dp, List.length_map]
    have lp : parts.length ≤ 1000 := by
      have : (parts.map (·.2)).length ≤ 1000 := hl
      rwa [List.length_map] at this
    refine lc_tup (K := K) (a := pa) (xs := ys) (fun i H' => ∃ us, Acc K H H' D us ((parts.take i).map fun q => q.2.d) ∧ DpAll K H us ((parts.take i).map fun q => q.2.d)) ⟨[], Acc.start hD, .nil⟩ (fun i H' _ ⟨_, ac, _⟩ => sqT_mono ac.s hpa) ?_ ?_
    · rintro i x H' hv ⟨us, ac, du⟩
      have hi := (List.getElem?_eq_some_iff.mp hv).1
      obtain ⟨q, eq⟩ : ∃ q, parts[i]? = some q := ⟨parts[i]'(by rw [← ly]; exact hi), List.getElem?_eq_getElem _⟩
      obtain ⟨v, ev, dq⟩ := DpAll.get dp (show (parts.map partD)[i]? = some (partD q) by rw [List.getElem?_map, eq]; rfl)
      rw [hv] at ev
      cases ev
      obtain ⟨t, u, rfl, ht, g3⟩ := part_inv dq
      refine ⟨rfl, _, rfl, t, _, _, _, rfl, rfl, sqT_mono ac.s ht, rfl, us, ac.l, ?_, us ++ [u], ?_, ?_⟩
      · have := ac.len
        rw [List.length_map, List.length_take] at this
        exact Nat.lt_of_le_of_lt (show us.length ≤ 1000 by omega) (by decide)
      · rw [take_more eq, List.map_append]
        exact ac.add (dp_mono ac.s _ _ g3) (Pl.nol q.2)
      · rw [take_more eq, List.map_append]
        exact DpAll.app du (.cons g3 .nil)
    rintro H' ⟨us, ac, du⟩
    rw [ly, List.take_length] at ac du
    have em : (parts.map fun q => q.2.d) = (Pl.ask s n parts).kids.map Pl.d := by show _ = (parts.map (·.2)).map Pl.d; rw [List.map_map]; rfl
    rw [em] at ac du
    exact k D H' us hD ac.s ac.l du
  | toss ps =>
    obtain ⟨a, pa, ys, rfl, hs, hpa, dp⟩ := toss_inv dv
    refine ⟨_, rfl, a, _, _, _, rfl, rfl, hs, rfl, rfl, _, rfl, ite_no (fun z => nk (of_decide_eq_true z)) ?_⟩
    refine ⟨_, rfl, a, _, _, _, rfl, rfl, hs, rfl, rfl, _, rfl, ite_yes (decide_eq_true rfl) ?_⟩
    refine ⟨_, rfl, a, _, _, _, rfl, rfl, hs, rfl, pa, ys, rfl, .inr hpa, fun l hln => ?_⟩
    have m := same_new hln (.lst ys)
    exact k l _ ys hln m upd_same dp
end
end Toy
set_option Elab.async false
set_option linter.all false
set_option maxRecDepth 100000
set_option maxHeartbeats 4000000
namespace Toy
open PySem L2 Gm
open Mine (ite_no ite_yes same_make op_repA pe_scG keyKind tScG call_len_setK pi_seqK iSeq)
theorem nodup_more {l : List Int} {x : Int} : (l ++ [x]).Nodup ↔ l.Nodup ∧ x ∉ l := by
  rw [List.nodup_append]
  constructor
  · rintro ⟨h1, _, h3⟩
    exact ⟨h1, fun hx => h3 x hx x (List.mem_singleton.mpr rfl) rfl⟩
  · rintro ⟨h1, h2⟩
    refine ⟨h1, by simp, fun a ha b hb e => ?_⟩
    rw [List.mem_singleton.mp hb] at e
    exact h2 (e ▸ ha)
section
variable {P : Program} {w : World} {K : PySem.W.Frag} {mg : Str → Option Value} {base : Heap}
theorem ok_cask (T : Txt K mg) : FnOk P w K mg base (L2.CX P w) 2 T.a_check_ask T.fd_check_ask ["game", "player"] (spCAsk K T.C_Game T.C_BadPlayer) := by
  have G_Game_proc : FnOk P w K mg base CX0 1 T.a_Game_proc T.fd_Game_proc ["self", "name"] (spProc K T.C_Game) := ok_gproc T
  refine T.F_check_ask.okX sc_check_ask (fun vs H Q E h => ?_) (fun cdv A outer s H vs Q E hr h => ?_)
  · obtain ⟨g, v, names, p, n, parts, rfl, _⟩ := h
    rfl
  obtain ⟨g, v, names, p, n, parts, rfl, gm, dv, hl, hp, kQ, kE⟩ := h
  refine ⟨_, (pss_cons (ps_asg (pv 1) (pg_tup rfl (pgs_cons (pg_name (i := 2) sc_check_ask.nd rfl (Or.inl rfl)) (pgs_cons (pg_name (i := 3) sc_check_ask.nd rfl (Or.inl rfl)) (pgs_cons (pg_name (i := 4) sc_check_ask.nd rfl (Or.inl rfl)) (pgs_cons (pg_name (i := 5) sc_check_ask.nd rfl (Or.inl rfl)) pgs_nil))))))
    (pss_cons (ps_if (pt_cmpR op_isN (pe_meth (pv 0) T.cl_Game T.m_Game_proc G_Game_proc (hr.mono (by decide)) T.b_Game_proc .nil pass0 (pa_cons (pv 3) pa_nil)) pe_non (nomark _))
      (pss_one (ps_raise rfl (takes_of rfl rfl rfl rfl) (SkE.pmk_own1 PySem.F.excBase_ValueError T.x_BadPlayer T.g_BadPlayer T.kc_BadPlayer (raises_own T.xb_BadPlayer T.xt_BadPlayer) rfl (pe_joined (PJ.cons pe_str (PJ.cons (pe_fmt (pv 3)) PJ.nil))))))
      pss_nil)
    (pss_cons (ps_if (pt_cmpR op_lt (pv 4) pe_int (nomark _))
      (pss_one (ps_raise rfl (takes_of rfl rfl rfl rfl) (pmk_own PySem.F.excBase_ValueError T.x_BadPlayer T.g_BadPlayer T.kc_BadPlayer (raises_own T.xb_BadPlayer T.xt_BadPlayer) rfl)))
      pss_nil)
    (pss_one (ps_if (pt_cmpR op_lt (pe_callB call_len_setK (by rfl) T.z_len (by decide +kernel) (pa_cons (pe_scG (own := [("part", 6)]) (g := gName 6) (tt := tYes) (keyKind _ _) rfl sc_check_ask.nd (pi_tup (pv 5)) (blkOk_by (own := [("part", 6)]) (N := ["game", "player", "_", "procedure", "number", "parts", "part"]) (sc := defScope s_check_ask) (by decide +kernel)) (fun _ _ _ _ _ => pg_name (i := 6) sc_check_ask.nd rfl (Or.inl rfl)) (fun _ _ _ _ _ => pts_nil) (fun _ _ _ _ _ => (pe_ix (ixtK K rfl) (pv 6) pe_int (fun _ _ => rfl)))) pa_nil)) (pe_callB call_len_seq (by rfl) T.z_len (by decide +kernel) (pa_cons (pv 5) pa_nil)) (nomark _))
      (pss_one (ps_raise rfl (takes_of rfl rfl rfl rfl) (pmk_own PySem.F.excBase_ValueError T.x_BadPlayer T.g_BadPlayer T.kc_BadPlayer (raises_own T.xb_BadPlayer T.xt_BadPlayer) rfl)))
      pss_nil))))), ?_⟩
  obtain ⟨a, pa, ys, rfl, hs, hpa, dp⟩ := ask_inv dv
  refine ⟨_, rfl, a, _, rfl, hs, rfl, _, _, rfl, _, _, rfl, _, _, rfl, _, _, rfl, rfl, ?_⟩
  obtain ⟨dx, b, c, d, qa, xs, hg, hqa, hh⟩ := id gm
  have pno : (gf b c d (.ref qa)).lookup ("proc" : Str) = none := gf_no _ _ _ _ (by decide +kernel) (by decide +kernel) (by decide +kernel) (by decide +kernel)
  have bad : ¬ (p ∈ names ∧ 0 ≤ n ∧ (parts.map (·.1)).Nodup) → ∀ H', Same H H' → E (.ref T.C_BadPlayer) none H' := fun z => kE (by
    show (decide (p ∈ names) && (decide (0 ≤ n) && decide ((parts.map (·.1)).Nodup))) = false
    refine Bool.eq_false_iff.mpr fun y => z ?_
    rw [Bool.and_eq_true, Bool.and_eq_true, decide_eq_true_iff, decide_eq_true_iff, decide_eq_true_iff] at y
    exact y)
  refine ⟨_, rfl, g, dx, _, rfl, hg, pno, _, rfl, ?_⟩
  refine ⟨g, p, names, rfl, gm, fun hn => ?_, fun hm q => ?_⟩
  · refine ⟨rfl, _, rfl, ite_yes (decide_eq_true rfl) ?_⟩
    have l0 : (Str.empty ++ ("no procedure " : Str)).length ≤ 20 := by decide +kernel
    refine ⟨_, rfl, Nat.le_trans l0 (by decide), _, rfl, .inl ⟨p, rfl, Nat.le_trans hp (by decide), _, rfl, ?_, bad (fun y => hn y.1) H (Same.refl _)⟩⟩
    rw [Str.length_append]
    exact Nat.le_trans (Nat.add_le_add l0 hp) (by decide)
  refine ⟨rfl, _, rfl, ite_no (by simp) ?_⟩
  refine ⟨_, rfl, _, _, rfl, rfl, _, rfl, ite2 (fun z => ?_) (fun z => ?_)⟩
  · have z' := of_decide_eq_true z
    exact bad (fun y => absurd y.2.1 (by omega)) H (Same.refl _)
  have n0 : 0 ≤ n := by
    have := of_decide_eq_false (Bool.eq_false_iff.mpr z)
    omega
  have ly : ys.length = parts.length := by rw [DpAll.len dp, List.length_map]
  refine ⟨_, rfl, pa, rfl, ⟨_, hpa⟩, fun D hD => ?_⟩
  refine Mine.scg_it walk_tup (fun i H' => Same H H' ∧ ∃ (S : Key → Bool) (m : Nat), H' D = some (SetK P w D S m) ∧ (∀ k : Int, S (.inl k) = true ↔ k ∈ (parts.map (·.1)).take i) ∧ m ≤ i ∧ (m = i ↔ ((parts.map (·.1)).take i).Nodup)) ⟨same_new hD _, _, 0, upd_same, fun k => by simp, Nat.le_refl _, by simp⟩ (fun i H' _ h => sqT_mono h.1 hpa) ?_ ?_
  · rintro i x H2 H3 hi ⟨m2, S, m, hS, hk, hm1, hm2⟩ ⟨rfl, hv⟩
    obtain ⟨q, eq⟩ : ∃ q, parts[i]? = some q := ⟨parts[i]'(by rw [← ly]; exact hi), List.getElem?_eq_getElem _⟩
    obtain ⟨v, ev, dq⟩ := DpAll.get dp (show (parts.map partD)[i]? = some (partD q) by rw [List.getElem?_map, eq]; rfl)
    rw [hv] at ev
    cases ev
    obtain ⟨t, u, rfl, ht, g3⟩ := part_inv dq
    have ea : (parts.map (·.1))[i]? = some q.1 := by rw [List.getElem?_map, eq]; rfl
    refine ⟨rfl, _, rfl, t, _, _, _, rfl, rfl, sqT_mono m2 ht, rfl, .inl q.1, S, m, rfl, hS, Nat.lt_of_le_of_lt (show m + 1 ≤ 1001 by omega) (by decide), ?_, _, _, upd_same, fun k => ?_, ?_, ?_⟩
    · intro y o e
      rw [upd_ne (ne_of_none e hD)]
      exact m2 _ _ e
    · rw [take_more ea, List.mem_append, List.mem_singleton, Bool.or_eq_true, hk, decide_eq_true_iff, Sum.inl.injEq]
    · split <;> omega
    · rw [take_more ea, nodup_more]
      by_cases c1 : q.1 ∈ (parts.map (·.1)).take i
      · rw [if_pos ((hk q.1).mpr c1)]
        exact ⟨fun z => absurd z (by omega), fun z => absurd c1 z.2⟩
      · rw [if_neg fun z => c1 ((hk q.1).mp z), ← hm2]
        exact ⟨fun z => ⟨by omega, c1⟩, fun z => by omega⟩
  rintro H2 ⟨m2, S, m, hS, hk, hm1, hm2⟩
  rw [ly] at hm1 hm2
  have et : (parts.map (·.1)).take parts.length = parts.map (·.1) := by
    have := List.take_length (l := parts.map (·.1))
    rwa [List.length_map] at this
  rw [et] at hm2
  refine ⟨D, S, m, rfl, hS, by omega, ?_⟩
  refine ⟨_, rfl, pa, _, rfl, .inr (sqT_mono m2 hpa), _, _, rfl, rfl, _, rfl, ite2 (fun z => ?_) (fun z => ?_)⟩
  · have z' := of_decide_eq_true z
    rw [ly] at z'
    exact bad (fun y => absurd (hm2.mpr y.2.2) (by omega)) H2 m2
  · have z' := of_decide_eq_false (Bool.eq_false_iff.mpr z)
    rw [ly] at z'
    have nd := hm2.mp (by omega)
    refine kQ ?_ H2 m2
    show (decide (p ∈ names) && (decide (0 ≤ n) && decide ((parts.map (·.1)).Nodup))) = true
    rw [decide_eq_true hm, decide_eq_true n0, decide_eq_true nd]
    rfl
theorem sh_ask {p : Str} {n : Int} {parts : List (Int × Pl)} (h : Pl.Short (.ask p n parts)) : p.length ≤ 1000 ∧ parts.length ≤ 1000 := by
  cases h with
  | ask _ _ _ h1 h2 h3 => exact ⟨h1, h2⟩
theorem sa_ : ¬ (V.str ("ask" : Str) = V.str "say") := fun z => absurd (V.str.inj z) (by decide +kernel)
theorem st_ : ¬ (V.str ("toss" : Str) = V.str "say") := fun z => absurd (V.str.inj z) (by decide +kernel)
theorem ta_ : ¬ (V.str ("toss" : Str) = V.str "ask") := fun z => absurd (V.str.inj z) (by decide +kernel)
theorem ok_below (T : Txt K mg) : ∀ k : Nat, FnOk P w K mg base (L2.CX P w) (k + 3) T.a_check_below T.fd_check_below ["game", "player", "left"] (spBelowK K T.C_Game T.C_BadPlayer k) := by
  intro k
  have G_check_ask : FnOk P w K mg base (L2.CX P w) 2 T.a_check_ask T.fd_check_ask ["game", "player"] (spCAsk K T.C_Game T.C_BadPlayer) := ok_cask T
  have G_parts_of : FnOk P w K mg base CX0 1 T.a_parts_of T.fd_parts_of ["player"] (spParts0 K) := ok_parts T
  induction k with
  | zero =>
    have G_check_below : FnOk P w K mg base (L2.CX P w) 1 T.a_check_below T.fd_check_below ["game", "player", "left"] (fun _ _ _ _ => False) :=
      T.F_check_below.okX sc_check_below (fun _ _ _ _ h => h.elim) (fun _ _ _ _ _ _ _ _ _ h => h.elim)
    refine T.F_check_below.okX sc_check_below (fun vs H Q E h => ?_) (fun cdv A outer s H vs Q E hr h => ?_)
    · obtain ⟨g, v, names, p, rfl, _⟩ := h
      rfl
    obtain ⟨g, v, names, p, rfl, gm, dv, sh, lay, kQ, kE⟩ := h
    refine ⟨_, (pss_cons (ps_if (pt_cmpR op_eq (pe_ix ix_tup (pv 1) pe_int (fun _ _ => rfl)) pe_str (nomark _))
      (pss_one ps_retN)
      pss_nil)
    (pss_cons (ps_if (pt_cmpR op_eq (pv 2) pe_int (nomark _))
      (pss_one (ps_raise rfl (takes_of rfl rfl rfl rfl) (pmk_own PySem.F.excBase_ValueError T.x_BadPlayer T.g_BadPlayer T.kc_BadPlayer (raises_own T.xb_BadPlayer T.xt_BadPlayer) rfl)))
      pss_nil)
    (pss_cons (ps_if (pt_cmpR op_eq (pe_ix ix_tup (pv 1) pe_int (fun _ _ => rfl)) pe_str (nomark _))
      (pss_one (ps_expr (pe_call G_check_ask (hr.mono (by omega)) rfl T.g_check_ask T.k_check_ask T.b_check_ask .nil (passes_call (takes_of rfl rfl rfl rfl) (fun _ _ _ _ z => z)) (pa_cons (pv 0) (pa_cons (pv 1) pa_nil)))))
      (pss_one (ps_if (pt_not (pt_chain op_le op_le pe_int (pe_callB call_len_seq (by rfl) T.z_len (by decide +kernel) (pa_cons (pe_ix ix_tup (pv 1) pe_int (fun _ _ => rfl)) pa_nil)) (pe_glob (v := .int 16) rfl T.g_MOST_TOSSED.choose_spec ⟨_, rfl⟩)))
      (pss_one (ps_raise rfl (takes_of rfl rfl rfl rfl) (pmk_own PySem.F.excBase_ValueError T.x_BadPlayer T.g_BadPlayer T.kc_BadPlayer (raises_own T.xb_BadPlayer T.xt_BadPlayer) rfl)))
      pss_nil)))
    (pss_cons (ps_set (i := 3) sc_check_below.nd rfl (Or.inl rfl) (pe_lst pa_nil))
    (pss_one (ps_for (passes_of rfl) rfl (pi_list (pe_call G_parts_of (hr.mono (by omega)) rfl T.g_parts_of T.k_parts_of T.b_parts_of .nil pass0 (pa_cons (pv 1) pa_nil))) (pg_name (i := 4) sc_check_below.nd rfl (Or.inl rfl))
      (pss_one (ps_if (pt_cmpR (op_notInD (units65 hr)) (pv 4) (pv 3) rfl)
      (pss_cons (ps_expr (pe_call G_check_below (hr.mono (by omega)) rfl T.g_check_below T.k_check_below T.b_check_below .nil (passes_call (takes_of rfl rfl rfl rfl) (fun _ _ _ _ z => z)) (pa_cons (pv 0) (pa_cons (pv 4) (pa_cons (pe_op op_sub (pv 2) pe_int) pa_nil)))))
    (pss_one (ps_expr (pe_bm PySem.F.plainAttrs_list PySem.F.slot_list_append PySem.F.type_list_append mt_append (pv 3) (pa_cons (pv 4) pa_nil)))))
      pss_nil)))))))), ?_⟩
    cases p with
    | say b =>
      obtain ⟨a, rfl, hs⟩ := say_inv dv
      refine ⟨_, rfl, a, _, _, _, rfl, rfl, hs, rfl, rfl, _, rfl, ite_yes (decide_eq_true rfl) ?_⟩
      exact kQ rfl H (Same.refl _)
    | ask s n parts =>
      obtain ⟨a, pa, ys, rfl, hs, hpa, dp⟩ := ask_inv dv
      refine ⟨_, rfl, a, _, _, _, rfl, rfl, hs, rfl, rfl, _, rfl, ite_no (fun z => sa_ (of_decide_eq_true z)) ?_⟩
      exact ⟨_, rfl, rfl, _, rfl, ite_yes (decide_eq_true rfl) (kE rfl H (Same.refl _))⟩
    | toss ps =>
      obtain ⟨a, pa, ys, rfl, hs, hpa, dp⟩ := toss_inv dv
      refine ⟨_, rfl, a, _, _, _, rfl, rfl, hs, rfl, rfl, _, rfl, ite_no (fun z => st_ (of_decide_eq_true z)) ?_⟩
      exact ⟨_, rfl, rfl, _, rfl, ite_yes (decide_eq_true rfl) (kE rfl H (Same.refl _))⟩
  | succ k ih =>
    have G_check_below : FnOk P w K mg base (L2.CX P w) (k + 3) T.a_check_below T.fd_check_below ["game", "player", "left"] (spBelowK K T.C_Game T.C_BadPlayer k) := ih
    refine T.F_check_below.okX sc_check_below (fun vs H Q E h => ?_) (fun cdv A outer s H vs Q E hr h => ?_)
    · obtain ⟨g, v, names, p, rfl, _⟩ := h
      rfl
    obtain ⟨g, v, names, p, rfl, gm, dv, sh, lay, kQ, kE⟩ := h
    refine ⟨_, (pss_cons (ps_if (pt_cmpR op_eq (pe_ix ix_tup (pv 1) pe_int (fun _ _ => rfl)) pe_str (nomark _))
      (pss_one ps_retN)
      pss_nil)
    (pss_cons (ps_if (pt_cmpR op_eq (pv 2) pe_int (nomark _))
      (pss_one (ps_raise rfl (takes_of rfl rfl rfl rfl) (pmk_own PySem.F.excBase_ValueError T.x_BadPlayer T.g_BadPlayer T.kc_BadPlayer (raises_own T.xb_BadPlayer T.xt_BadPlayer) rfl)))
      pss_nil)
    (pss_cons (ps_if (pt_cmpR op_eq (pe_ix ix_tup (pv 1) pe_int (fun _ _ => rfl)) pe_str (nomark _))
      (pss_one (ps_expr (pe_call G_check_ask (hr.mono (by omega)) rfl T.g_check_ask T.k_check_ask T.b_check_ask .nil (passes_call (takes_of rfl rfl rfl rfl) (fun _ _ _ _ z => z)) (pa_cons (pv 0) (pa_cons (pv 1) pa_nil)))))
      (pss_one (ps_if (pt_not (pt_chain op_le op_le pe_int (pe_callB call_len_seq (by rfl) T.z_len (by decide +kernel) (pa_cons (pe_ix ix_tup (pv 1) pe_int (fun _ _ => rfl)) pa_nil)) (pe_glob (v := .int 16) rfl T.g_MOST_TOSSED.choose_spec ⟨_, rfl⟩)))
      (pss_one (ps_raise rfl (takes_of rfl rfl rfl rfl) (pmk_own PySem.F.excBase_ValueError T.x_BadPlayer T.g_BadPlayer T.kc_BadPlayer (raises_own T.xb_BadPlayer T.xt_BadPlayer) rfl)))
      pss_nil)))
    (pss_cons (ps_set (i := 3) sc_check_below.nd rfl (Or.inl rfl) (pe_lst pa_nil))
    (pss_one (ps_for (passes_of rfl) rfl (pi_list (pe_call G_parts_of (hr.mono (by omega)) rfl T.g_parts_of T.k_parts_of T.b_parts_of .nil pass0 (pa_cons (pv 1) pa_nil))) (pg_name (i := 4) sc_check_below.nd rfl (Or.inl rfl))
      (pss_one (ps_if (pt_cmpR (op_notInD (units65 hr)) (pv 4) (pv 3) rfl)
      (pss_cons (ps_expr (pe_call G_check_below (hr.mono (by omega)) rfl T.g_check_below T.k_check_below T.b_check_below .nil (passes_call (takes_of rfl rfl rfl rfl) (fun _ _ _ _ z => z)) (pa_cons (pv 0) (pa_cons (pv 4) (pa_cons (pe_op op_sub (pv 2) pe_int) pa_nil)))))
    (pss_one (ps_expr (pe_bm PySem.F.plainAttrs_list PySem.F.slot_list_append PySem.F.type_list_append mt_append (pv 3) (pa_cons (pv 4) pa_nil)))))
      pss_nil)))))))), ?_⟩
    have lft : ¬ decide (V.int ((k + 1 : Nat) : Int) = V.int 0) = true := fun z => by
      have := V.int.inj (of_decide_eq_true z)
      omega
    rw [chk_succ] at kQ kE
    obtain ⟨kl, ks⟩ := sh.kids
    have kla := lay_kids lay
    -- what was there before the list of parts that fit
    have kept : ∀ (q : Pl) (x : V) (H1 : Hp) (F : Addr) (H3 : Hp) (ys : List V) (ds : List PyData), H1 F = none → Acc K H1 H3 F ys ds → Dp K (upd H1 F (.lst [])) x q.d → Dp K H3 x q.d := by
      intro q x H1 F H3 ys ds hF ac d
      have e : Tups (upd H1 F (.lst [])) H3 := fun b zs hb hz => by
        by_cases h : b = F
        · rw [h, upd_same] at hb
          cases hb
          rcases hz with ⟨_, e⟩ | ⟨_, _, e⟩ <;> cases e
        · rw [upd_ne h] at hb
          exact ac.s _ _ hb
      exact dp_tups e _ _ (Pl.nol q) d
    cases p with
    | say b =>
      obtain ⟨a, rfl, hs⟩ := say_inv dv
      refine ⟨_, rfl, a, _, _, _, rfl, rfl, hs, rfl, rfl, _, rfl, ite_yes (decide_eq_true rfl) ?_⟩
      exact kQ rfl H (Same.refl _)
    | ask s n parts =>
      obtain ⟨a, pa, ys, rfl, hs, hpa, dp⟩ := ask_inv dv
      refine ⟨_, rfl, a, _, _, _, rfl, rfl, hs, rfl, rfl, _, rfl, ite_no (fun z => sa_ (of_decide_eq_true z)) ?_⟩
      refine ⟨_, rfl, rfl, _, rfl, ite_no lft ?_⟩
      refine ⟨_, rfl, a, _, _, _, rfl, rfl, hs, rfl, rfl, _, rfl, ite_yes (decide_eq_true rfl) ?_⟩
      refine ⟨_, rfl, _, rfl, g, .ref a, names, s, n, parts, rfl, gm, dv, (sh_ask sh).2, (sh_ask sh).1, fun hh H1 m1 => ?_, fun hh H1 m1 => kE (by rw [hh]; rfl) H1 m1⟩
      rw [hh, Bool.true_and] at kQ kE
      refine ⟨by show 0 ≤ sizeLine; decide, fun F hF => ?_⟩
      have st0 := Acc.start (K := K) hF
      have m1f := m1.trans st0.s
      refine ⟨_, rfl, .ref a, Pl.ask s n parts, rfl, dp_mono m1f _ _ dv, kl, fun l H2 zs nl m2 hl dz => ?_⟩
      have nlF : l ≠ F := fun z => by rw [z, upd_same] at nl; cases nl
      have lz : zs.length = (Pl.ask s n parts).kids.length := by rw [DpAll.len dz, List.length_map]
      refine ⟨l, rfl, ⟨_, SqL.of hl⟩, for_list (K := K) (a := l) (xs := zs) (fun i σ H' => H' l = some (.lst zs) ∧ (∃ y, σ = [some (.ref g), some (.ref a), some (.int ((k + 1 : Nat) : Int)), some (.ref F), y]) ∧ ((Pl.ask s n parts).kids.take i).all (chk names k) = true ∧
        ∃ ys qs, Acc K H1 H' F ys (qs.map Pl.d) ∧ (∀ q, q ∈ qs ↔ q ∈ (Pl.ask s n parts).kids.take i) ∧ qs.length ≤ i) ⟨hl, ⟨none, rfl⟩, by simp, [], [], st0.grow m2, by simp, Nat.le_refl _⟩ (fun i σ H' _ h => SqL.of h.1) ?_ ?_⟩
      · rintro i x σ H3 hv ⟨el, ⟨y, rfl⟩, hall, ys, qs, ac, hq, hql⟩
        have hi := (List.getElem?_eq_some_iff.mp hv).1
        obtain ⟨q, eq⟩ : ∃ q, (Pl.ask s n parts).kids[i]? = some q := ⟨(Pl.ask s n parts).kids[i]'(by rw [← lz]; exact hi), List.getElem?_eq_getElem _⟩
        obtain ⟨v', ev, dq0⟩ := DpAll.get dz (show ((Pl.ask s n parts).kids.map Pl.d)[i]? = some q.d by rw [List.getElem?_map, eq]; rfl)
        rw [hv] at ev
        cases ev
        have mq : q ∈ (Pl.ask s n parts).kids := List.mem_of_getElem? eq
        have dq : Dp K H3 x q.d := kept q x H1 F H3 ys (qs.map Pl.d) hF ac dq0
        have ek : V.int (((k + 1 : Nat) : Int) - 1) = V.int (k : Nat) := by congr 1; omega
        have Lq : ∀ q' ∈ qs, q'.Lay 60 := fun q' hq' => kla q' (List.mem_of_mem_take ((hq q').mp hq'))
        have li : i ≤ 1000 := by omega
        refine ⟨_, rfl, _, rfl, q.d, qs.map Pl.d, dq, .lst (SqL.of ac.l) ac.d, lay_shaped (kla q mq), lays_shaped Lq, _, rfl, ?_⟩
        by_cases hm : q ∈ qs
        · refine ite_no (by rw [mem_any.mpr hm]; exact Bool.false_ne_true) ?_
          have hc : chk names k q = true := List.all_eq_true.mp hall q ((hq q).mp hm)
          refine ⟨el, ⟨_, rfl⟩, ?_, ys, qs, ac, fun q' => ?_, by omega⟩
          · rw [take_more eq, List.all_append, hall]
            show (true && (chk names k q && true)) = true
            rw [hc]; rfl
          · rw [take_more eq, List.mem_append, List.mem_singleton, hq]
            refine ⟨.inl, fun z => z.elim id fun e => ?_⟩
            rw [e]
            exact (hq q).mp hm
        · refine ite_yes (by rw [Bool.eq_false_iff.mpr fun z => hm (mem_any.mp z)]; rfl) ?_
          refine ⟨_, rfl, _, rfl, _, rfl, _, _, rfl, rfl, g, x, names, q, by show [V.ref g, x, V.int (((k + 1 : Nat) : Int) - 1)] ++ [] = _; rw [ek]; rfl, gm.same (m1.trans ac.s), dq, ks q mq, kla q mq, fun hc H4 m4 => ?_, fun hc H4 m4 => ?_⟩
          · have ac4 := ac.grow m4
            have sz : ys.length < sizeLine := by
              have := ac.len
              rw [List.length_map] at this
              exact Nat.lt_of_le_of_lt (show ys.length ≤ 1000 by omega) (by decide)
            refine ⟨_, rfl, .inl ⟨rfl, _, SqL.of ac4.l⟩, _, rfl, F, _, _, rfl, rfl, ac4.l, sz, ?_, ⟨_, rfl⟩, ?_, ys ++ [x], qs ++ [q], ?_, fun q' => ?_, by rw [List.length_append]; show qs.length + 1 ≤ i + 1; omega⟩
            · rw [upd_ne nlF]
              exact m4 _ _ el
            · rw [take_more eq, List.all_append, hall]
              show (true && (chk names k q && true)) = true
              rw [hc]; rfl
            · rw [List.map_append]
              exact ac4.add (dp_mono m4 _ _ dq) (Pl.nol q)
            · rw [take_more eq, List.mem_append, List.mem_append, List.mem_singleton, hq]
          · refine kE ?_ H4 (m1.trans (ac.s.trans m4))
            refine Bool.eq_false_iff.mpr fun z => ?_
            have := List.all_eq_true.mp z q mq
            rw [hc] at this
            exact Bool.false_ne_true this
      · rintro σ H3 ⟨el, ⟨y, rfl⟩, hall, ys, qs, ac, hq, _⟩
        rw [lz, List.take_length] at hall
        exact kQ hall H3 (m1.trans ac.s)
    | toss ps =>
      obtain ⟨a, pa, ys, rfl, hs, hpa, dp⟩ := toss_inv dv
      have ly : ys.length = ps.length := by rw [DpAll.len dp, List.length_map]
      refine ⟨_, rfl, a, _, _, _, rfl, rfl, hs, rfl, rfl, _, rfl, ite_no (fun z => st_ (of_decide_eq_true z)) ?_⟩
      refine ⟨_, rfl, rfl, _, rfl, ite_no lft ?_⟩
      refine ⟨_, rfl, a, _, _, _, rfl, rfl, hs, rfl, rfl, _, rfl, ite_no (fun z => ta_ (of_decide_eq_true z)) ?_⟩
      obtain ⟨H1, eH⟩ : ∃ H1, H1 = H := ⟨_, rfl⟩
      have m1 : Same H H1 := by rw [eH]; exact Same.refl _
      have go : headOk names (.toss ps) = true ∨ headOk names (.toss ps) = false := by
        cases headOk names (.toss ps) with
        | true => exact .inl rfl
        | false => exact .inr rfl
      refine ⟨_, rfl, a, _, _, _, rfl, rfl, hs, rfl, pa, _, rfl, .inr hpa, ?_⟩
      rw [ly]
      refine ⟨_, _, rfl, rfl, _, rfl, ite2 (fun z1 => ?_) (fun z1 => ?_)⟩
      · refine ⟨_, _, rfl, rfl, _, rfl, ?_⟩
        by_cases c : ps.length ≤ 16
        · refine ite_no (by rw [decide_eq_true (by omega : (((ps.length : Nat) : Int)) ≤ 16)]; exact Bool.false_ne_true) ?_
          have c1 : 1 ≤ ps.length := by have := of_decide_eq_true z1; omega
          have hh : headOk names (.toss ps) = true := decide_eq_true ⟨c1, c⟩
          rw [hh, Bool.true_and] at kQ kE
          rw [← eH]
          refine ⟨by show 0 ≤ sizeLine; decide, fun F hF => ?_⟩
          have st0 := Acc.start (K := K) hF
          have m1f := m1.trans st0.s
          refine ⟨_, rfl, .ref a, Pl.toss ps, rfl, dp_mono m1f _ _ dv, kl, fun l H2 zs nl m2 hl dz => ?_⟩
          have nlF : l ≠ F := fun z => by rw [z, upd_same] at nl; cases nl
          have lz : zs.length = (Pl.toss ps).kids.length := by rw [DpAll.len dz, List.length_map]
          refine ⟨l, rfl, ⟨_, SqL.of hl⟩, for_list (K := K) (a := l) (xs := zs) (fun i σ H' => H' l = some (.lst zs) ∧ (∃ y, σ = [some (.ref g), some (.ref a), some (.int ((k + 1 : Nat) : Int)), some (.ref F), y]) ∧ ((Pl.toss ps).kids.take i).all (chk names k) = true ∧
            ∃ ys qs, Acc K H1 H' F ys (qs.map Pl.d) ∧ (∀ q, q ∈ qs ↔ q ∈ (Pl.toss ps).kids.take i) ∧ qs.length ≤ i) ⟨hl, ⟨none, rfl⟩, by simp, [], [], st0.grow m2, by simp, Nat.le_refl _⟩ (fun i σ H' _ h => SqL.of h.1) ?_ ?_⟩
          · rintro i x σ H3 hv ⟨el, ⟨y, rfl⟩, hall, ys, qs, ac, hq, hql⟩
            have hi := (List.getElem?_eq_some_iff.mp hv).1
            obtain ⟨q, eq⟩ : ∃ q, (Pl.toss ps).kids[i]? = some q := ⟨(Pl.toss ps).kids[i]'(by rw [← lz]; exact hi), List.getElem?_eq_getElem _⟩
            obtain ⟨v', ev, dq0⟩ := DpAll.get dz (show ((Pl.toss ps).kids.map Pl.d)[i]? = some q.d by rw [List.getElem?_map, eq]; rfl)
            rw [hv] at ev
            cases ev
            have mq : q ∈ (Pl.toss ps).kids := List.mem_of_getElem? eq
            have dq : Dp K H3 x q.d := kept q x H1 F H3 ys (qs.map Pl.d) hF ac dq0
            have ek : V.int (((k + 1 : Nat) : Int) - 1) = V.int (k : Nat) := by congr 1; omega
            have Lq : ∀ q' ∈ qs, q'.Lay 60 := fun q' hq' => kla q' (List.mem_of_mem_take ((hq q').mp hq'))
            have li : i ≤ 1000 := by omega
            refine ⟨_, rfl, _, rfl, q.d, qs.map Pl.d, dq, .lst (SqL.of ac.l) ac.d, lay_shaped (kla q mq), lays_shaped Lq, _, rfl, ?_⟩
            by_cases hm : q ∈ qs
            · refine ite_no (by rw [mem_any.mpr hm]; exact Bool.false_ne_true) ?_
              have hc : chk names k q = true := List.all_eq_true.mp hall q ((hq q).mp hm)
              refine ⟨el, ⟨_, rfl⟩, ?_, ys, qs, ac, fun q' => ?_, by omega⟩
              · rw [take_more eq, List.all_append, hall]
                show (true && (chk names k q && true)) = true
                rw [hc]; rfl
              · rw [take_more eq, List.mem_append, List.mem_singleton, hq]
                refine ⟨.inl, fun z => z.elim id fun e => ?_⟩
                rw [e]
                exact (hq q).mp hm
            · refine ite_yes (by rw [Bool.eq_false_iff.mpr fun z => hm (mem_any.mp z)]; rfl) ?_
              refine ⟨_, rfl, _, rfl, _, rfl, _, _, rfl, rfl, g, x, names, q, by show [V.ref g, x, V.int (((k + 1 : Nat) : Int) - 1)] ++ [] = _; rw [ek]; rfl, gm.same (m1.trans ac.s), dq, ks q mq, kla q mq, fun hc H4 m4 => ?_, fun hc H4 m4 => ?_⟩
              · have ac4 := ac.grow m4
                have sz : ys.length < sizeLine := by
                  have := ac.len
                  rw [List.length_map] at this
                  exact Nat.lt_of_le_of_lt (show ys.length ≤ 1000 by omega) (by decide)
                refine ⟨_, rfl, .inl ⟨rfl, _, SqL.of ac4.l⟩, _, rfl, F, _, _, rfl, rfl, ac4.l, sz, ?_, ⟨_, rfl⟩, ?_, ys ++ [x], qs ++ [q], ?_, fun q' => ?_, by rw [List.length_append]; show qs.length + 1 ≤ i + 1; omega⟩
                · rw [upd_ne nlF]
                  exact m4 _ _ el
                · rw [take_more eq, List.all_append, hall]
                  show (true && (chk names k q && true)) = true
                  rw [hc]; rfl
                · rw [List.map_append]
                  exact ac4.add (dp_mono m4 _ _ dq) (Pl.nol q)
                · rw [take_more eq, List.mem_append, List.mem_append, List.mem_singleton, hq]
              · refine kE ?_ H4 (m1.trans (ac.s.trans m4))
                refine Bool.eq_false_iff.mpr fun z => ?_
                have := List.all_eq_true.mp z q mq
                rw [hc] at this
                exact Bool.false_ne_true this
          · rintro σ H3 ⟨el, ⟨y, rfl⟩, hall, ys, qs, ac, hq, _⟩
            rw [lz, List.take_length] at hall
            exact kQ hall H3 (m1.trans ac.s)
        · refine ite_yes (by rw [decide_eq_false (by omega : ¬ (((ps.length : Nat) : Int)) ≤ 16)]; rfl) ?_
          refine kE ?_ H (Same.refl _)
          show (decide (1 ≤ ps.length ∧ ps.length ≤ 16) && _) = false
          rw [decide_eq_false (fun y => c y.2)]; rfl
      · refine ⟨_, rfl, ite_yes rfl ?_⟩
        refine kE ?_ H (Same.refl _)
        show (decide (1 ≤ ps.length ∧ ps.length ≤ 16) && _) = false
        rw [decide_eq_false (fun y => ?_)]
        · rfl
        · refine absurd (decide_eq_true ?_) z1
          have := y.1
          omega
theorem ok_check (T : Txt K mg) : FnOk P w K mg base (L2.CX P w) 12 T.a_check_player T.fd_check_player ["game", "player"] (spCheck K T.C_Game T.C_BadPlayer) := by
  have G_check_below : FnOk P w K mg base (L2.CX P w) 11 T.a_check_below T.fd_check_below ["game", "player", "left"] (spBelowK K T.C_Game T.C_BadPlayer 8) := ok_below T 8
  refine T.F_check_player.okX sc_check_player (fun vs H Q E h => ?_) (fun cdv A outer s H vs Q E hr h => ?_)
  · obtain ⟨g, v, names, p, rfl, _⟩ := h
    rfl
  obtain ⟨g, v, names, p, rfl, gm, dv, sh, lay, kQ, kE⟩ := h
  refine ⟨_, (pss_one (ps_expr (pe_call G_check_below (hr.mono (by decide)) rfl T.g_check_below T.k_check_below T.b_check_below .nil (passes_call (takes_of rfl rfl rfl rfl) (fun _ _ _ _ z => z)) (pa_cons (pv 0) (pa_cons (pv 1) (pa_cons (pe_glob (v := .int 8) rfl T.g_DEEPEST_PLAYER.choose_spec ⟨_, rfl⟩) pa_nil)))))), ?_⟩
  exact ⟨_, rfl, _, rfl, g, v, names, p, rfl, gm, dv, sh, lay, kQ, kE⟩
/-- the chance of a player that does not fit -/
def spChanceBad (K : PySem.W.Frag) (C B : Addr) : Sp := fun vs H _ E => ∃ (g : Addr) (v : V) (names : List Str) (p : Pl), vs = [.ref g, v] ∧ GmAt K C H g names ∧ Dp K H v p.d ∧ p.Short ∧ p.Lay 60 ∧ chk names 8 p = false ∧ ∀ H', Same H H' → E (.ref B) none H'
theorem ok_chance_bad (T : Txt K mg) : FnOk P w K mg base (L2.CX P w) 13 T.a_chance T.fd_chance ["game", "player"] (spChanceBad K T.C_Game T.C_BadPlayer) := by
  have G_check_player : FnOk P w K mg base (L2.CX P w) 12 T.a_check_player T.fd_check_player ["game", "player"] (spCheck K T.C_Game T.C_BadPlayer) := ok_check T
  refine T.F_chance.okX sc_chance (fun vs H Q E h => ?_) (fun cdv A outer s H vs Q E hr h => ?_)
  · obtain ⟨g, v, names, p, rfl, _⟩ := h
    rfl
  obtain ⟨g, v, names, p, rfl, gm, dv, sh, lay, bad, kE⟩ := h
  refine ⟨_, (pss_cons (ps_expr (pe_call G_check_player (hr.mono (by decide)) rfl T.g_check_player T.k_check_player T.b_check_player .nil (passes_call (takes_of rfl rfl rfl rfl) (fun _ _ _ _ z => z)) (pa_cons (pv 0) (pa_cons (pv 1) pa_nil))))
    pss_never), ?_⟩
  exact ⟨_, rfl, _, rfl, g, v, names, p, rfl, gm, dv, sh, lay, (fun z => by rw [bad] at z; exact Bool.noConfusion z), fun _ => kE⟩
end
end Toy
set_option Elab.async false
set_option linter.all false
set_option maxRecDepth 100000
set_option maxHeartbeats 4000000
namespace Toy
open PySem L2 Gm
open Mine (ite_no ite_yes same_make op_repA)
/-! ### players that are made -/
structure PlAt (K : PySem.W.Frag) (H : Hp) (v : V) (p : Pl) (k : Nat) : Prop where
  d : Dp K H v p.d
  s : p.Short
  l : p.Lay k
theorem PlAt.same {K : PySem.W.Frag} {H H' : Hp} {v : V} {p : Pl} {k : Nat} (h : PlAt K H v p k) (m : Same H H') : PlAt K H' v p k := ⟨dp_mono m _ _ h.d, h.s, h.l⟩
theorem PlAt.mono {K : PySem.W.Frag} {H : Hp} {v : V} {p : Pl} {j k : Nat} (h : PlAt K H v p j) (e : j ≤ k) : PlAt K H v p k := ⟨h.d, h.s, h.l.mono e⟩
section
variable {K : PySem.W.Frag} {H : Hp}
theorem pl_say {a : Addr} (h : H a = none) (b : Bool) : PlAt K (upd H a (.tup [.str "say", .bl b])) (.ref a) (.say b) 1 := by
  refine ⟨?_, .say b, lay_say b⟩
  rw [Pl.d_say]
  exact dp_tup h (.cons (.str _) (.cons (.bl _) .nil))
theorem pl_toss {a : Addr} {v : V} {ps : List Pl} {k : Nat} (h : H a = none) (hd : Dp K H v (.tuple (ps.map Pl.d))) (hs : ps.length ≤ 1000) (hk : ∀ q ∈ ps, q.Short ∧ q.Lay k) : PlAt K (upd H a (.tup [.str "toss", v])) (.ref a) (.toss ps) (k + 2) := by
  refine ⟨?_, .toss ps hs fun q hq => (hk q hq).1, lay_toss fun q hq => (hk q hq).2⟩
  rw [Pl.d_toss]
  exact dp_tup h (.cons (.str _) (.cons hd .nil))
theorem pl_ask {a : Addr} {v : V} {p : Str} {n : Int} {parts : List (Int × Pl)} {k : Nat} (h : H a = none) (hd : Dp K H v (.tuple (parts.map partD))) (hp : p.length ≤ 1000) (hp2 : PyData.canLay0 (.str p) = true) (hs : parts.length ≤ 1000) (hk : ∀ q ∈ parts, q.2.Short ∧ q.2.Lay k) :
    PlAt K (upd H a (.tup [.str "ask", .str p, .int n, v])) (.ref a) (.ask p n parts) (k + 3) := by
  refine ⟨?_, .ask p n parts hp hs fun q hq => (hk q hq).1, lay_ask hp2 fun q hq => (hk q hq).2⟩
  rw [Pl.d_ask]
  exact dp_tup h (.cons (.str _) (.cons (.str _) (.cons (.int _) (.cons hd .nil))))
theorem pl_part {a : Addr} {v : V} {n : Int} {q : Pl} (h : H a = none) (hd : Dp K H v q.d) : Dp K (upd H a (.tup [.int n, v])) (.ref a) (partD (n, q)) := by
  show Dp K _ _ (.tuple [.int n, q.d])
  exact dp_tup h (.cons (.int _) (.cons hd .nil))
end
/-- names of procedures that the law knows -/
def GoodN (n : Str) : Prop := n.length ≤ 1000 ∧ PyData.canLay0 (.str n) = true
/-- procedures as the law reads them -/
def PrcAt (K : PySem.W.Frag) (H : Hp) (xs : List V) (names : List Str) : Prop := xs.length = names.length ∧ names ≠ [] ∧ (∀ n ∈ names, GoodN n) ∧ ∀ (i : Nat) (n : Str), names[i]? = some n → ∃ (a : Addr) (sz an : Int) (rest : List V), xs[i]? = some (V.ref a) ∧ SqT K H a (.str n :: .int sz :: .int an :: rest) ∧ 0 < sz ∧ sz ≤ 64 ∧ 1 ≤ an ∧ an ≤ 9
theorem PrcAt.same {K : PySem.W.Frag} {H H' : Hp} {xs : List V} {names : List Str} (h : PrcAt K H xs names) (s : Same H H') : PrcAt K H' xs names :=
  ⟨h.1, h.2.1, h.2.2.1, fun i n e => let ⟨a, sz, an, r, x, y, z⟩ := h.2.2.2 i n e; ⟨a, sz, an, r, x, sqT_mono s y, z⟩⟩
def spPlayer (K : PySem.W.Frag) (k : Nat) : Sp := fun vs H Q _ => ∃ (cell : Int) (pa : Addr) (xs : List V) (names : List Str), vs = [.int cell, .ref pa, .int (k : Nat)] ∧ SqT K H pa xs ∧ PrcAt K H xs names ∧
  ∀ (v : V) (p : Pl) (H' : Hp), Same H H' → PlAt K H' v p (1 + 3 * k) → chk names k p = true → Q v H'
section
variable {P : Program} {w : World} {K : PySem.W.Frag} {mg : Str → Option Value} {base : Heap}
theorem pow9 : (10 : Int) ^ (9 : Int).toNat = 1000000000 := by decide
theorem ok_player (T : Txt K mg) : ∀ k : Nat, FnOk P w K mg base CX0 (k + 2) T.a_law_player T.fd_law_player ["cell", "procs", "deep"] (spPlayer K k) := by
  intro k
  have G_law_row : FnOk P w K mg base CX0 1 T.a_law_row T.fd_law_row ["cell", "count", "size"] spRow := ok_row T
  induction k with
  | zero =>
    have G_law_player : FnOk P w K mg base CX0 1 T.a_law_player T.fd_law_player ["cell", "procs", "deep"] (fun _ _ _ _ => False) :=
      T.F_law_player.ok sc_law_player (fun _ _ _ _ h => h.elim) (fun _ _ _ _ _ _ _ _ _ h => h.elim)
    refine T.F_law_player.ok sc_law_player (fun vs H Q E h => ?_) (fun cdv A outer s H vs Q E hr h => ?_)
    · obtain ⟨c, pa, xs, names, rfl, _⟩ := h
      rfl
    obtain ⟨cell, pa, xs, names, rfl, hpa, hP, q⟩ := h
    refine ⟨_, (pss_cons (ps_set (i := 3) sc_law_player.nd rfl (Or.inl rfl) (pe_op op_mod (pe_callTy call_int1 (by rfl) T.z_int (by decide +kernel) (pa_cons (pv 0) pa_nil)) pe_int))
    (pss_cons (ps_set (i := 4) sc_law_player.nd rfl (Or.inl rfl) (pe_op op_fdivW (pe_callTy call_int1 (by rfl) T.z_int (by decide +kernel) (pa_cons (pv 0) pa_nil)) pe_int))
    (pss_cons (ps_if (PW.pt (pw_or (pt_cmpR op_eq (pv 2) pe_int (nomark _)) (pw_or1 (pt_cmpR op_eq (pv 3) pe_int (nomark _)))))
      (pss_one (ps_ret (pe_tup (pa_cons pe_str (pa_cons (pe_cmpR op_eq (pe_op op_mod (pv 4) pe_int) pe_int (nomark _)) pa_nil)))))
      pss_nil)
    (pss_cons (ps_if (pt_cmpR op_eq (pv 3) pe_int (nomark _))
      (pss_cons (ps_set (i := 5) sc_law_player.nd rfl (Or.inl rfl) (pe_call G_law_row (hr.mono (by omega)) rfl T.g_law_row T.k_law_row T.b_law_row .nil pass0 (pa_cons (pv 4) (pa_cons pe_int (pa_cons (pe_op op_pow pe_int pe_int) pa_nil)))))
    (pss_one (ps_ret (pe_tup (pa_cons pe_str (pa_cons (pe_callTy call_tuple_of (by rfl) T.z_tuple (by decide +kernel) (pa_cons (pe_lc (own := [("digit", 6)]) (g := gName 6) (tt := tYes) rfl sc_law_player.nd (pi_list (pe_slice sl_list (pv 5) po_none (po_some (pe_op op_add pe_int (pe_op op_mod (pv 4) pe_int))))) (blkOk_by (own := [("digit", 6)]) (N := ["cell", "procs", "deep", "kind", "rest", "digits", "digit", "proc", "parts", "answer"]) (sc := defScope s_law_player) (by decide +kernel)) (fun _ _ _ _ _ => pg_name (i := 6) sc_law_player.nd rfl (Or.inl rfl)) (fun _ _ _ _ _ => pts_nil) (fun _ _ _ _ _ => (pe_call G_law_player (hr.mono (by omega)) rfl T.g_law_player T.k_law_player T.b_law_player .nil pass0 (pa_cons (pv 6) (pa_cons (pv 1) (pa_cons (pe_op op_sub (pv 2) pe_int) pa_nil)))))) pa_nil)) pa_nil))))))
      pss_nil)
    (pss_cons (ps_set (i := 7) sc_law_player.nd rfl (Or.inl rfl) (pe_ix ix_tup (pv 1) (pe_op op_mod (pv 4) (pe_callB call_len_seq (by rfl) T.z_len (by decide +kernel) (pa_cons (pv 1) pa_nil))) (fun _ _ => rfl)))
    (pss_cons (ps_set (i := 5) sc_law_player.nd rfl (Or.inl rfl) (pe_call G_law_row (hr.mono (by omega)) rfl T.g_law_row T.k_law_row T.b_law_row .nil pass0 (pa_cons (pe_op op_fdivW (pv 4) pe_int) (pa_cons pe_int (pa_cons (pe_op op_pow pe_int pe_int) pa_nil)))))
    (pss_cons (ps_set (i := 8) sc_law_player.nd rfl (Or.inl rfl) (pe_lst pa_nil))
    (pss_cons (ps_for PassesOwn.never rfl (pi_range1 (by rfl) T.z_range (pa_cons (pe_ix ix_tup (pv 7) pe_int (fun _ _ => rfl)) pa_nil)) (pg_name (i := 9) sc_law_player.nd rfl (Or.inl rfl))
      (pss_one (ps_if (pt_cmpR op_ne (pe_op op_mod (pe_ix ix_list (pv 5) (pv 9) (fun _ _ => rfl)) pe_int) pe_int (nomark _))
      (pss_one (ps_expr (pe_bm PySem.F.plainAttrs_list PySem.F.slot_list_append PySem.F.type_list_append mt_append (pv 8) (pa_cons (pe_tup (pa_cons (pv 9) (pa_cons (pe_call G_law_player (hr.mono (by omega)) rfl T.g_law_player T.k_law_player T.b_law_player .nil pass0 (pa_cons (pe_op op_fdivW (pe_ix ix_list (pv 5) (pv 9) (fun _ _ => rfl)) pe_int) (pa_cons (pv 1) (pa_cons (pe_op op_sub (pv 2) pe_int) pa_nil)))) pa_nil))) pa_nil))))
      pss_nil)))
    (pss_one (ps_ret (pe_tup (pa_cons pe_str (pa_cons (pe_ix ix_tup (pv 7) pe_int (fun _ _ => rfl)) (pa_cons (pe_op op_mod (pe_ix ix_list (pv 5) pe_int (fun _ _ => rfl)) (pe_ix ix_tup (pv 7) pe_int (fun _ _ => rfl))) (pa_cons (pe_callTy call_tuple_of (by rfl) T.z_tuple (by decide +kernel) (pa_cons (pv 8) pa_nil)) pa_nil))))))))))))))), ?_⟩
    refine ⟨_, rfl, .inl ⟨_, rfl, _, _, rfl, rfl, (by show (0 : Int) < 9; decide), ?_⟩⟩
    refine ⟨_, rfl, .inl ⟨_, rfl, _, _, rfl, rfl, ⟨by decide, by decide⟩, ?_⟩⟩
    refine ⟨_, rfl, rfl, _, rfl, ite_yes (decide_eq_true rfl) ?_⟩
    refine ⟨_, rfl, _, _, rfl, rfl, (by show (0 : Int) < 2; decide), rfl, (by show 2 ≤ sizeLine; decide), fun a ha => ?_⟩
    exact q _ _ _ (same_new ha _) (pl_say ha _) (chk_say _ _ _)
  | succ k ih =>
    have G_law_player : FnOk P w K mg base CX0 (k + 2) T.a_law_player T.fd_law_player ["cell", "procs", "deep"] (spPlayer K k) := ih
    refine T.F_law_player.ok sc_law_player (fun vs H Q E h => ?_) (fun cdv A outer s H vs Q E hr h => ?_)
    · obtain ⟨c, pa, xs, names, rfl, _⟩ := h
      rfl
    obtain ⟨cell, pa, xs, names, rfl, hpa, hP, q⟩ := h
    refine ⟨_, (pss_cons (ps_set (i := 3) sc_law_player.nd rfl (Or.inl rfl) (pe_op op_mod (pe_callTy call_int1 (by rfl) T.z_int (by decide +kernel) (pa_cons (pv 0) pa_nil)) pe_int))
    (pss_cons (ps_set (i := 4) sc_law_player.nd rfl (Or.inl rfl) (pe_op op_fdivW (pe_callTy call_int1 (by rfl) T.z_int (by decide +kernel) (pa_cons (pv 0) pa_nil)) pe_int))
    (pss_cons (ps_if (PW.pt (pw_or (pt_cmpR op_eq (pv 2) pe_int (nomark _)) (pw_or1 (pt_cmpR op_eq (pv 3) pe_int (nomark _)))))
      (pss_one (ps_ret (pe_tup (pa_cons pe_str (pa_cons (pe_cmpR op_eq (pe_op op_mod (pv 4) pe_int) pe_int (nomark _)) pa_nil)))))
      pss_nil)
    (pss_cons (ps_if (pt_cmpR op_eq (pv 3) pe_int (nomark _))
      (pss_cons (ps_set (i := 5) sc_law_player.nd rfl (Or.inl rfl) (pe_call G_law_row (hr.mono (by omega)) rfl T.g_law_row T.k_law_row T.b_law_row .nil pass0 (pa_cons (pv 4) (pa_cons pe_int (pa_cons (pe_op op_pow pe_int pe_int) pa_nil)))))
    (pss_one (ps_ret (pe_tup (pa_cons pe_str (pa_cons (pe_callTy call_tuple_of (by rfl) T.z_tuple (by decide +kernel) (pa_cons (pe_lc (own := [("digit", 6)]) (g := gName 6) (tt := tYes) rfl sc_law_player.nd (pi_list (pe_slice sl_list (pv 5) po_none (po_some (pe_op op_add pe_int (pe_op op_mod (pv 4) pe_int))))) (blkOk_by (own := [("digit", 6)]) (N := ["cell", "procs", "deep", "kind", "rest", "digits", "digit", "proc", "parts", "answer"]) (sc := defScope s_law_player) (by decide +kernel)) (fun _ _ _ _ _ => pg_name (i := 6) sc_law_player.nd rfl (Or.inl rfl)) (fun _ _ _ _ _ => pts_nil) (fun _ _ _ _ _ => (pe_call G_law_player (hr.mono (by omega)) rfl T.g_law_player T.k_law_player T.b_law_player .nil pass0 (pa_cons (pv 6) (pa_cons (pv 1) (pa_cons (pe_op op_sub (pv 2) pe_int) pa_nil)))))) pa_nil)) pa_nil))))))
      pss_nil)
    (pss_cons (ps_set (i := 7) sc_law_player.nd rfl (Or.inl rfl) (pe_ix ix_tup (pv 1) (pe_op op_mod (pv 4) (pe_callB call_len_seq (by rfl) T.z_len (by decide +kernel) (pa_cons (pv 1) pa_nil))) (fun _ _ => rfl)))
    (pss_cons (ps_set (i := 5) sc_law_player.nd rfl (Or.inl rfl) (pe_call G_law_row (hr.mono (by omega)) rfl T.g_law_row T.k_law_row T.b_law_row .nil pass0 (pa_cons (pe_op op_fdivW (pv 4) pe_int) (pa_cons pe_int (pa_cons (pe_op op_pow pe_int pe_int) pa_nil)))))
    (pss_cons (ps_set (i := 8) sc_law_player.nd rfl (Or.inl rfl) (pe_lst pa_nil))
    (pss_cons (ps_for PassesOwn.never rfl (pi_range1 (by rfl) T.z_range (pa_cons (pe_ix ix_tup (pv 7) pe_int (fun _ _ => rfl)) pa_nil)) (pg_name (i := 9) sc_law_player.nd rfl (Or.inl rfl))
      (pss_one (ps_if (pt_cmpR op_ne (pe_op op_mod (pe_ix ix_list (pv 5) (pv 9) (fun _ _ => rfl)) pe_int) pe_int (nomark _))
      (pss_one (ps_expr (pe_bm PySem.F.plainAttrs_list PySem.F.slot_list_append PySem.F.type_list_append mt_append (pv 8) (pa_cons (pe_tup (pa_cons (pv 9) (pa_cons (pe_call G_law_player (hr.mono (by omega)) rfl T.g_law_player T.k_law_player T.b_law_player .nil pass0 (pa_cons (pe_op op_fdivW (pe_ix ix_list (pv 5) (pv 9) (fun _ _ => rfl)) pe_int) (pa_cons (pv 1) (pa_cons (pe_op op_sub (pv 2) pe_int) pa_nil)))) pa_nil))) pa_nil))))
      pss_nil)))
    (pss_one (ps_ret (pe_tup (pa_cons pe_str (pa_cons (pe_ix ix_tup (pv 7) pe_int (fun _ _ => rfl)) (pa_cons (pe_op op_mod (pe_ix ix_list (pv 5) pe_int (fun _ _ => rfl)) (pe_ix ix_tup (pv 7) pe_int (fun _ _ => rfl))) (pa_cons (pe_callTy call_tuple_of (by rfl) T.z_tuple (by decide +kernel) (pa_cons (pv 8) pa_nil)) pa_nil))))))))))))))), ?_⟩
    have two2 : (2 : Nat) ≤ sizeLine := by decide
    have ek : V.int (((k + 1 : Nat) : Int) - 1) = V.int (k : Nat) := by congr 1; omega
    refine ⟨_, rfl, .inl ⟨_, rfl, _, _, rfl, rfl, (by show (0 : Int) < 9; decide), ?_⟩⟩
    refine ⟨_, rfl, .inl ⟨_, rfl, _, _, rfl, rfl, ⟨by decide, by decide⟩, ?_⟩⟩
    dsimp only
    generalize cell / 9 = r
    generalize cell % 9 = kd
    have lft : ¬ decide (V.int ((k + 1 : Nat) : Int) = V.int 0) = true := fun z => by
      have := V.int.inj (of_decide_eq_true z)
      omega
    refine ⟨_, rfl, rfl, _, rfl, ite_no lft ?_⟩
    refine ⟨_, rfl, rfl, _, rfl, ite2 (fun _ => ?_) (fun _ => ?_)⟩
    · refine ⟨_, rfl, _, _, rfl, rfl, (by show (0 : Int) < 2; decide), rfl, two2, fun a ha => ?_⟩
      exact q _ _ _ (same_new ha _) ((pl_say ha _).mono (by omega)) (chk_say _ _ _)
    refine ⟨_, rfl, rfl, _, rfl, ite2 (fun _ => ?_) (fun _ => ?_)⟩
    · -- a toss
      refine ⟨_, rfl, _, _, rfl, rfl, ⟨by decide, by decide, by decide⟩, r, 3, (10 : Int) ^ (9 : Int).toNat, rfl, by decide, by decide, by rw [pow9]; decide, by rw [pow9]; decide, fun dl ds H1 m1 hD hn hb => ?_⟩
      have hn3 : ds.length = 3 := hn
      obtain ⟨es, ee, e1, e3⟩ : ∃ es : List Int, cutV (ds.map V.int) none (some (1 + r % 3)) = es.map V.int ∧ 1 ≤ es.length ∧ es.length ≤ 3 := by
        match ds, hn3 with
        | [x, y, z], _ =>
          have : r % 3 = 0 ∨ r % 3 = 1 ∨ r % 3 = 2 := by omega
          rcases this with e | e | e <;> rw [e]
          · exact ⟨[x], rfl, by simp, by simp⟩
          · exact ⟨[x, y], rfl, by simp, by simp⟩
          · exact ⟨[x, y, z], rfl, by simp, by simp⟩
      refine ⟨_, rfl, _, rfl, _, _, rfl, rfl, (by show (0 : Int) < 3; decide), _, _, rfl, rfl, _, rfl, dl, _, rfl, SqL.of hD, fun l hl => ?_⟩
      have ee' : cutV (ds.map V.int) none (some ((fun i j : Int => i + j) 1 ((fun i j : Int => i % j) r 3))) = es.map V.int := ee
      rw [ee']
      have m2 := same_new hl (.lst (cutV (ds.map V.int) none (some (1 + r % 3))))
      have hl2 := upd_same (H := H1) (a := l) (o := .lst (cutV (ds.map V.int) none (some (1 + r % 3))))
      have m12 := m1.trans m2
      rw [ee] at hl2 m12
      refine ⟨l, rfl, ⟨_, SqL.of hl2⟩, fun D hDn => ?_⟩
      refine lc_list (K := K) (a := l) (xs := es.map V.int) (fun i H' => ∃ (us : List V) (ps : List Pl), Acc K (upd H1 l (.lst (es.map V.int))) H' D us (ps.map Pl.d) ∧ ps.length = i ∧ ∀ p ∈ ps, p.Short ∧ p.Lay (1 + 3 * k) ∧ chk names k p = true) ⟨[], [], Acc.start hDn, rfl, fun p hp => nomatch hp⟩ (fun i H' _ ⟨_, _, ac, _⟩ => SqL.of (ac.s _ _ hl2)) ?_ ?_
      · rintro i y H3 hy ⟨us, ps, ac, hpl, hok⟩
        have hi := (List.getElem?_eq_some_iff.mp hy).1
        rw [List.length_map] at hi
        obtain ⟨e, he, rfl⟩ := List.mem_map.mp (List.mem_of_getElem? hy)
        have m13 := m12.trans ac.s
        refine ⟨rfl, _, rfl, _, rfl, _, rfl, _, _, rfl, rfl, e, pa, xs, names, by show [V.int e, V.ref pa, V.int (((k + 1 : Nat) : Int) - 1)] ++ [] = _; rw [ek]; rfl, sqT_mono m13 hpa, hP.same m13, fun v p H4 m4 pl hc => ?_⟩
        have ac' := (ac.grow m4).add pl.d (Pl.nol p)
        refine ⟨us, (ac.grow m4).l, ?_, us ++ [v], ps ++ [p], by rw [List.map_append]; exact ac', by rw [List.length_append, hpl]; rfl, fun q' hq' => ?_⟩
        · have := ac.len
          rw [List.length_map] at this
          exact Nat.lt_of_le_of_lt (show us.length ≤ 1000 by omega) (by decide)
        · rcases List.mem_append.mp hq' with h | h
          · exact hok q' h
          · rw [List.mem_singleton.mp h]
            exact ⟨pl.s, pl.l, hc⟩
      rintro H3 ⟨us, ps, ac, hpl, hok⟩
      rw [List.length_map] at hpl
      refine ⟨D, us, rfl, .inl ⟨SqL.of ac.l, fun tp htp => ?_⟩⟩
      have dt := dp_tup (K := K) htp ac.d
      have n1 := same_new htp (.tup us)
      refine ⟨two2, fun a ha => ?_⟩
      have pa' := pl_toss (K := K) (k := 1 + 3 * k) ha dt (by omega) (fun q' hq' => ⟨(hok q' hq').1, (hok q' hq').2.1⟩)
      refine q _ (.toss ps) _ (m12.trans (ac.s.trans (n1.trans (same_new ha _)))) (pa'.mono (by omega)) ?_
      rw [chk_succ]
      show (decide (1 ≤ ps.length ∧ ps.length ≤ 16) && ps.all (chk names k)) = true
      rw [decide_eq_true ⟨by omega, by omega⟩, Bool.true_and, List.all_eq_true]
      exact fun q' hq' => (hok q' hq').2.2
    -- a question
    have len0 : (0 : Int) < ((xs.length : Nat) : Int) := by
      have := List.length_pos_iff.mpr hP.2.1
      rw [hP.1]
      omega
    have j0 := Int.emod_nonneg r (by omega : ((xs.length : Nat) : Int) ≠ 0)
    have j1 := Int.emod_lt_of_pos r len0
    obtain ⟨nm, enm⟩ : ∃ nm, names[(r % ((xs.length : Nat) : Int)).toNat]? = some nm := ⟨names[(r % ((xs.length : Nat) : Int)).toNat]'(by rw [← hP.1]; omega), List.getElem?_eq_getElem _⟩
    obtain ⟨t, sz, an, rest, et, ht, z0, z1, a0, a1⟩ := hP.2.2.2 _ _ enm
    have gn := hP.2.2.1 nm (List.mem_of_getElem? enm)
    refine ⟨_, rfl, _, rfl, _, rfl, pa, _, rfl, .inr hpa, _, _, rfl, rfl, len0, pa, _, _, _, rfl, rfl, hpa, at_of (j := (r % ((xs.length : Nat) : Int)).toNat) (by omega) et, ?_⟩
    refine ⟨_, rfl, _, _, rfl, rfl, ⟨by decide, by decide⟩, _, _, rfl, rfl, ⟨by decide, by decide, by decide⟩, _, 9, (10 : Int) ^ (9 : Int).toNat, rfl, by decide, by decide, by rw [pow9]; decide, by rw [pow9]; decide, fun dl ds H1 m1 hD hn hb => ?_⟩
    have hn9 : ds.length = 9 := hn
    have dig : ∀ i : Int, 0 ≤ i → i < 9 → ∃ d : Int, atI (ds.map V.int) i = some (.int d) := fun i h0 h1 => by
      have hk : i.toNat < ds.length := by omega
      exact ⟨ds[i.toNat], at_of (j := i.toNat) (by omega) (by rw [List.getElem?_map, List.getElem?_eq_getElem hk] <;> rfl)⟩
    refine ⟨(by show 0 ≤ sizeLine; decide), fun L hL => ?_⟩
    have ht1 := sqT_mono m1 ht
    have nL := same_new hL (.lst [])
    refine ⟨_, rfl, t, _, 2, V.int an, rfl, rfl, sqT_mono nL ht1, atI_nat (j := 2) rfl, _, rfl, by omega, by omega, ?_⟩
    refine for_range (lo := 0) (n := an.toNat) (fun i σ H' => ∃ (us : List V) (parts : List (Int × Pl)), Acc K H1 H' L us (parts.map partD) ∧ (∀ q ∈ parts, q.1 < i) ∧ (parts.map (·.1)).Nodup ∧ parts.length ≤ i ∧ (∀ q ∈ parts, q.2.Short ∧ q.2.Lay (1 + 3 * k) ∧ chk names k q.2 = true) ∧
      ∃ kd' y, σ = [some (.int cell), some (.ref pa), some (.int ((k + 1 : Nat) : Int)), kd', some (.int r), some (.ref dl), none, some (.ref t), some (.ref L), y]) ⟨[], [], Acc.start hL, (fun q hq => nomatch hq), List.nodup_nil, Nat.le_refl _, (fun q hq => nomatch hq), _, none, rfl⟩ ?_ ?_
    · rintro i σ H2 hi ⟨us, parts, ac, hlt, hnd, hpl, hok, kd', y, rfl⟩
      obtain ⟨d, ed⟩ := dig (0 + (i : Int)) (by omega) (by omega)
      have hD2 := SqL.of (K := K) (ac.s _ _ hD)
      refine ⟨_, rfl, _, rfl, dl, _, _, _, rfl, rfl, hD2, ed, _, _, rfl, rfl, (by show (0 : Int) < 7; decide), rfl, _, rfl, ite2 (fun _ => ?_) (fun _ => ?_)⟩
      · refine ⟨_, rfl, .inl ⟨rfl, _, SqL.of ac.l⟩, _, rfl, _, rfl, _, rfl, dl, _, _, _, rfl, rfl, hD2, ed, _, _, rfl, rfl, ⟨by decide, by decide⟩, _, rfl, _, rfl, _, _, rfl, rfl, ?_⟩
        have m13 := m1.trans ac.s
        refine ⟨d / 7, pa, xs, names, by show [V.int (d / 7), V.ref pa, V.int (((k + 1 : Nat) : Int) - 1)] ++ [] = _; rw [ek]; rfl, sqT_mono m13 hpa, hP.same m13, fun v p H4 m4 pl hc => ⟨two2, fun tp htp => ?_⟩⟩
        have n5 := same_new htp (.tup [.int (0 + (i : Int)), v])
        have ac' := ((ac.grow m4).grow n5).add (pl_part (n := 0 + (i : Int)) htp pl.d) (partD_nol _)
        refine ⟨L, _, _, rfl, rfl, ((ac.grow m4).grow n5).l, ?_, us ++ [.ref tp], parts ++ [(0 + (i : Int), p)], by rw [List.map_append]; exact ac', ?_, ?_, ?_, ?_, _, _, rfl⟩
        · have := ac.len
          rw [List.length_map] at this
          exact Nat.lt_of_le_of_lt (show us.length ≤ 1000 by omega) (by decide)
        · intro q' hq'
          rcases List.mem_append.mp hq' with h | h
          · have := hlt q' h
            omega
          · rw [List.mem_singleton.mp h]
            show 0 + (i : Int) < ((i + 1 : Nat) : Int)
            omega
        · rw [List.map_append]
          refine nodup_more.mpr ⟨hnd, fun hm => ?_⟩
          obtain ⟨q', hq', e⟩ := List.mem_map.mp hm
          have h1 := hlt q' hq'
          have e' : q'.1 = 0 + (i : Int) := e
          omega
        · rw [List.length_append]
          show parts.length + 1 ≤ i + 1
          omega
        · intro q' hq'
          rcases List.mem_append.mp hq' with h | h
          · exact hok q' h
          · rw [List.mem_singleton.mp h]
            exact ⟨pl.s, pl.l, hc⟩
      · exact ⟨us, parts, ac, (fun q' hq' => by have := hlt q' hq'; omega), hnd, by omega, hok, _, _, rfl⟩
    · rintro σ H2 ⟨us, parts, ac, hlt, hnd, hpl, hok, kd', y, rfl⟩
      obtain ⟨d8, e8⟩ := dig 8 (by decide) (by decide)
      have ht2 := sqT_mono ac.s ht1
      refine ⟨_, rfl, t, _, 0, V.str nm, rfl, rfl, ht2, atI_nat (j := 0) rfl, _, rfl, dl, _, _, _, rfl, rfl, SqL.of (ac.s _ _ hD), e8, _, rfl, t, _, 1, V.int sz, rfl, rfl, ht2, atI_nat (j := 1) rfl, _, _, rfl, rfl, z0, _, rfl, L, us, rfl, .inl ⟨SqL.of ac.l, fun tp htp => ⟨(by show 4 ≤ sizeLine; decide), fun a ha => ?_⟩⟩⟩
      have dt := dp_tup (K := K) htp ac.d
      have n1 := same_new htp (.tup us)
      have pa' := pl_ask (K := K) (k := 1 + 3 * k) (n := d8 % sz) ha dt gn.1 gn.2 (by omega) (fun q' hq' => ⟨(hok q' hq').1, (hok q' hq').2.1⟩)
      refine q _ (.ask nm (d8 % sz) parts) _ (m1.trans (ac.s.trans (n1.trans (same_new ha _)))) (pa'.mono (by omega)) ?_
      show (decide (nm ∈ names) && (decide (0 ≤ d8 % sz) && (decide ((parts.map (·.1)).Nodup) && parts.all fun q => chk names k q.2))) = true
      rw [decide_eq_true (List.mem_of_getElem? enm), decide_eq_true (Int.emod_nonneg _ (by omega)), decide_eq_true hnd, Bool.true_and, Bool.true_and, Bool.true_and, List.all_eq_true]
      exact fun q' hq' => (hok q' hq').2.2
end
end Toy
set_option Elab.async false
set_option linter.all false
set_option maxRecDepth 100000
set_option maxHeartbeats 4000000
namespace Toy
open PySem L2 Gm
open Mine (ite_no ite_yes same_make op_repA)
theorem cut_to {xs : List V} {k : Nat} (h : k ≤ xs.length) : cutV xs none (some (k : Int)) = xs.take k := by
  unfold cutV
  rw [HT.sIx_nat, HT.sIx_none, List.drop_zero, Nat.sub_zero, Nat.min_eq_left h]
theorem cut_from {xs : List V} {k : Nat} (h : k ≤ xs.length) : cutV xs (some (k : Int)) none = xs.drop k := by
  unfold cutV
  rw [HT.sIx_nat, HT.sIx_none, Nat.min_eq_left h]
  refine List.take_of_length_le ?_
  rw [List.length_drop]
  omega
section
variable {K : PySem.W.Frag} {H : Hp}
theorem dps_take : ∀ (n : Nat) {vs : List V} {ds : List PyData}, DpAll K H vs ds → DpAll K H (vs.take n) (ds.take n)
  | 0, _, _, _ => by rw [List.take_zero, List.take_zero]; exact .nil
  | n + 1, vs, [], h => by rw [dps_nil h]; exact .nil
  | n + 1, vs, d :: ds, h => by
    obtain ⟨u, r, rfl, h1, h2⟩ := dps_cons h
    exact .cons h1 (dps_take n h2)
theorem dps_drop : ∀ (n : Nat) {vs : List V} {ds : List PyData}, DpAll K H vs ds → DpAll K H (vs.drop n) (ds.drop n)
  | 0, _, _, h => by rw [List.drop_zero, List.drop_zero]; exact h
  | n + 1, vs, [], h => by rw [dps_nil h]; exact .nil
  | n + 1, vs, d :: ds, h => by
    obtain ⟨u, r, rfl, h1, h2⟩ := dps_cons h
    exact dps_drop n h2
theorem dps_set : ∀ (n : Nat) {vs : List V} {ds : List PyData} {v : V} {d : PyData}, DpAll K H vs ds → Dp K H v d → DpAll K H (vs.set n v) (ds.set n d)
  | _, vs, [], _, _, h, _ => by rw [dps_nil h]; exact .nil
  | 0, vs, d :: ds, _, _, h, hv => by
    obtain ⟨u, r, rfl, h1, h2⟩ := dps_cons h
    exact .cons hv h2
  | n + 1, vs, d :: ds, _, _, h, hv => by
    obtain ⟨u, r, rfl, h1, h2⟩ := dps_cons h
    exact .cons h1 (dps_set n h2 hv)
end
theorem twice_no {l : List Int} {a : Int} {n : Nat} (h : a ∈ l) : ¬ (l.take n ++ [a] ++ l.drop n).Nodup := by
  intro z
  rw [List.append_assoc, List.nodup_append] at z
  obtain ⟨_, z2, z3⟩ := z
  rw [← List.take_append_drop n l, List.mem_append] at h
  rcases h with h | h
  · exact z3 a h a (List.mem_append.mpr (.inl (List.mem_singleton.mpr rfl))) rfl
  · rw [List.nodup_append] at z2
    exact z2.2.2 a (List.mem_singleton.mpr rfl) a h rfl
theorem sm1000 {n : Nat} (h : n ≤ 1000) : n ≤ sizeLine := Nat.le_trans h (by decide)
theorem sl1000 {n : Nat} (h : n ≤ 1000) : n < sizeLine := Nat.lt_of_le_of_lt h (by decide)
/-- parts that end at once -/
def Ends (ps : List (Int × Pl)) : Prop := ∀ q ∈ ps, ∃ b, q.2 = .say b
theorem ends_ok {ps : List (Int × Pl)} (h : Ends ps) : ∀ q ∈ ps, q.2.Short ∧ q.2.Lay 1 := fun q hq => by
  obtain ⟨b, e⟩ := h q hq
  rw [e]
  exact ⟨.say b, lay_say b⟩
def spTwice (K : PySem.W.Frag) : Sp := fun vs H Q _ => ∃ cell : Int, vs = [.int cell] ∧ ∀ (v : V) (ps : List (Int × Pl)) (H' : Hp), Same H H' → Dp K H' v (.tuple (ps.map partD)) → ps.length ≤ 10 → Ends ps → ¬ (ps.map (·.1)).Nodup → Q v H'
section
variable {P : Program} {w : World} {K : PySem.W.Frag} {mg : Str → Option Value} {base : Heap}
theorem ok_twice (T : Txt K mg) : FnOk P w K mg base CX0 1 T.a_law_twice T.fd_law_twice ["cell"] (spTwice K) := by
  refine T.F_law_twice.ok sc_law_twice (fun vs H Q E h => ?_) (fun cdv A outer s H vs Q E hr h => ?_)
  · obtain ⟨c, rfl, _⟩ := h
    rfl
  obtain ⟨c, rfl, q⟩ := h
  refine ⟨_, (pss_cons (ps_setLc (i := 1) (own := [("k", 2)]) (g := gName 2) (tt := tYes) rfl sc_law_twice.nd rfl rfl (sw_true rfl rfl rfl (by decide +kernel)) (pi_range1 (by rfl) T.z_range (pa_cons (pe_op op_add pe_int (pe_op op_mod (pe_callTy call_int1 (by rfl) T.z_int (by decide +kernel) (pa_cons (pv 0) pa_nil)) pe_int)) pa_nil)) (blkOk_by (own := [("k", 2)]) (N := ["cell", "parts", "k", "again", "at"]) (sc := defScope s_law_twice) (by decide +kernel)) (fun _ _ _ _ _ => pg_name (i := 2) sc_law_twice.nd rfl (Or.inl rfl)) (fun _ _ _ _ _ => pts_nil) (fun _ _ _ _ _ => (pe_tup (pa_cons (pv 2) (pa_cons (pe_tup (pa_cons pe_str (pa_cons (pe_cmpR op_eq (pe_op op_mod (pv 2) pe_int) pe_int (nomark _)) pa_nil))) pa_nil)))))
    (pss_cons (ps_set (i := 3) sc_law_twice.nd rfl (Or.inl rfl) (pe_ix ix_list (pv 1) (pe_op op_mod (pe_op op_fdivW (pe_callTy call_int1 (by rfl) T.z_int (by decide +kernel) (pa_cons (pv 0) pa_nil)) pe_int) (pe_callB call_len_seq (by rfl) T.z_len (by decide +kernel) (pa_cons (pv 1) pa_nil))) (fun _ _ => rfl)))
    (pss_cons (ps_set (i := 4) sc_law_twice.nd rfl (Or.inl rfl) (pe_op op_mod (pe_op op_fdivW (pe_callTy call_int1 (by rfl) T.z_int (by decide +kernel) (pa_cons (pv 0) pa_nil)) pe_int) (pe_op op_add (pe_callB call_len_seq (by rfl) T.z_len (by decide +kernel) (pa_cons (pv 1) pa_nil)) pe_int)))
    (pss_one (ps_ret (pe_callTy call_tuple_of (by rfl) T.z_tuple (by decide +kernel) (pa_cons (pe_op op_cat (pe_op op_cat (pe_slice sl_list (pv 1) po_none (po_some (pv 4))) (pe_lst (pa_cons (pe_tup (pa_cons (pe_ix ix_tup (pv 3) pe_int (fun _ _ => rfl)) (pa_cons (pe_tup (pa_cons pe_str (pa_cons pe_bl pa_nil))) pa_nil))) pa_nil))) (pe_slice sl_list (pv 1) (po_some (pv 4)) po_none)) pa_nil))))))), ?_⟩
  have two2 : (2 : Nat) ≤ sizeLine := by decide
  have one1 : (1 : Nat) ≤ sizeLine := by decide
  have c0 := Int.emod_nonneg c (by decide : (3 : Int) ≠ 0)
  have c1 := Int.emod_lt_of_pos c (by decide : (0 : Int) < 3)
  refine ⟨_, rfl, .inl ⟨_, rfl, _, _, rfl, rfl, (by show (0 : Int) < 3; decide), _, _, rfl, rfl, _, rfl, by omega, by omega, fun D hD => ?_⟩⟩
  refine lc_range (lo := 0) (n := (2 + c % 3).toNat) (fun i H' => ∃ (us : List V) (ps : List (Int × Pl)), Acc K H H' D us (ps.map partD) ∧ ps.length = i ∧ Ends ps) ⟨[], [], Acc.start hD, rfl, fun q hq => nomatch hq⟩ ?_ ?_
  · rintro i H1 hi ⟨us, ps, ac, hl, he⟩
    refine ⟨rfl, _, rfl, _, rfl, _, _, rfl, rfl, (by show (0 : Int) < 2; decide), rfl, two2, fun t1 h1 => ⟨two2, fun t2 h2 => ?_⟩⟩
    have pl := pl_say (K := K) h1 (decide (V.int ((0 + (i : Int)) % 2) = V.int 0))
    have n1 := same_new h1 (.tup [.str "say", .bl (decide (V.int ((0 + (i : Int)) % 2) = V.int 0))])
    have n2 := same_new h2 (.tup [.int (0 + (i : Int)), .ref t1])
    have ac' := ((ac.grow n1).grow n2).add (pl_part (n := 0 + (i : Int)) h2 pl.d) (partD_nol _)
    refine ⟨us, ((ac.grow n1).grow n2).l, ?_, us ++ [.ref t2], ps ++ [(0 + (i : Int), .say _)], by rw [List.map_append]; exact ac', by rw [List.length_append, hl]; rfl, fun x hx => ?_⟩
    · have := ac.len
      rw [List.length_map] at this
      exact sl1000 (by omega)
    · rcases List.mem_append.mp hx with h | h
      · exact he x h
      · rw [List.mem_singleton.mp h]
        exact ⟨_, rfl⟩
  rintro H1 ⟨us, ps, ac, hl, he⟩
  have hS := SqL.of (K := K) ac.l
  have ul : us.length = ps.length := by rw [ac.len, List.length_map]
  have len0 : (0 : Int) < ((us.length : Nat) : Int) := by omega
  have j0 := Int.emod_nonneg (c / 3) (by omega : ((us.length : Nat) : Int) ≠ 0)
  have j1 := Int.emod_lt_of_pos (c / 3) len0
  obtain ⟨p9, ep⟩ : ∃ p9, ps[(c / 3 % ((us.length : Nat) : Int)).toNat]? = some p9 := ⟨ps[(c / 3 % ((us.length : Nat) : Int)).toNat]'(by omega), List.getElem?_eq_getElem _⟩
  obtain ⟨v9, ev, d9⟩ := DpAll.get ac.d (show (ps.map partD)[(c / 3 % ((us.length : Nat) : Int)).toNat]? = some (partD p9) by rw [List.getElem?_map, ep]; rfl)
  obtain ⟨t9, u9, rfl, ht9, _⟩ := part_inv d9
  refine ⟨_, rfl, _, rfl, .inl ⟨_, rfl, _, _, rfl, rfl, ⟨by decide, by decide⟩, _, rfl, D, _, rfl, .inl hS, _, _, rfl, rfl, len0, D, _, _, _, rfl, rfl, hS, at_of (j := (c / 3 % ((us.length : Nat) : Int)).toNat) (by omega) ev, ?_⟩⟩
  refine ⟨_, rfl, .inl ⟨_, rfl, _, _, rfl, rfl, ⟨by decide, by decide⟩, _, rfl, D, _, rfl, .inl hS, _, _, rfl, rfl, _, _, rfl, rfl, (by show (0 : Int) < ((us.length : Nat) : Int) + 1; omega), ?_⟩⟩
  dsimp only
  have k0 := Int.emod_nonneg (c / 20) (by omega : ((us.length : Nat) : Int) + 1 ≠ 0)
  have k1 := Int.emod_lt_of_pos (c / 20) (by omega : (0 : Int) < ((us.length : Nat) : Int) + 1)
  obtain ⟨n, en⟩ : ∃ n : Nat, (n : Int) = c / 20 % (((us.length : Nat) : Int) + 1) := ⟨(c / 20 % (((us.length : Nat) : Int) + 1)).toNat, by omega⟩
  have hn : n ≤ us.length := by omega
  have e1 := cut_to hn
  have e2 := cut_from hn
  rw [← en]
  refine ⟨_, rfl, _, rfl, _, rfl, D, _, rfl, hS, fun s1 hs1 => ?_⟩
  rw [e1]
  have n1 := same_new hs1 (.lst (us.take n))
  refine ⟨_, rfl, t9, _, _, _, rfl, rfl, sqT_mono n1 ht9, rfl, two2, fun t1 h1 => ⟨two2, fun t2 h2 => ⟨one1, fun s2 hs2 => ?_⟩⟩⟩
  have pl := pl_say (K := K) h1 true
  have n2 := same_new h1 (.tup [.str "say", .bl true])
  have n3 := same_new h2 (.tup [.int p9.1, .ref t1])
  have dq := pl_part (n := p9.1) h2 pl.d
  have n4 := same_new hs2 (.lst [.ref t2])
  refine ⟨s1, s2, _, _, rfl, rfl, n4 _ _ (n3 _ _ (n2 _ _ upd_same)), upd_same, sm1000 (by rw [List.length_take]; show _ + 1 ≤ 1000; omega), fun s3 hs3 => ?_⟩
  have n5 := same_new hs3 (.lst (us.take n ++ [.ref t2]))
  have n15 := n1.trans (n2.trans (n3.trans (n4.trans n5)))
  refine ⟨_, rfl, _, rfl, _, rfl, D, _, rfl, SqL.of (n15 _ _ ac.l), fun s4 hs4 => ?_⟩
  rw [e2]
  have n6 := same_new hs4 (.lst (us.drop n))
  refine ⟨s3, s4, _, _, rfl, rfl, n6 _ _ upd_same, upd_same, sm1000 (by rw [List.length_append, List.length_take, List.length_drop]; show _ + 1 + _ ≤ 1000; omega), fun s5 hs5 => ?_⟩
  have n7 := same_new hs5 (.lst (us.take n ++ [.ref t2] ++ us.drop n))
  refine ⟨s5, _, rfl, .inl ⟨SqL.of upd_same, fun tp htp => ?_⟩⟩
  have n8 := same_new htp (.tup (us.take n ++ [.ref t2] ++ us.drop n))
  have n18 := n15.trans (n6.trans (n7.trans n8))
  have m57 := n4.trans (n5.trans (n6.trans n7))
  have da := dp_monoAll n18 _ _ ac.d
  have dall := DpAll.app (DpAll.app (dps_take n da) (.cons (dp_mono (m57.trans n8) _ _ dq) .nil)) (dps_drop n da)
  have ed : ((ps.take n ++ [(p9.1, Pl.say true)] ++ ps.drop n).map partD) = (ps.map partD).take n ++ [partD (p9.1, Pl.say true)] ++ (ps.map partD).drop n := by
    rw [List.map_append, List.map_append, List.map_take, List.map_drop]
    rfl
  rw [← ed] at dall
  refine q _ (ps.take n ++ [(p9.1, Pl.say true)] ++ ps.drop n) _ (ac.s.trans n18) (.tup (SqT.of upd_same) dall) ?_ (fun x hx => ?_) ?_
  · rw [List.length_append, List.length_append, List.length_take, List.length_drop]
    show _ + 1 + _ ≤ 10
    omega
  · rcases List.mem_append.mp hx with h | h
    · rcases List.mem_append.mp h with h | h
      · exact he x (List.mem_of_mem_take h)
      · rw [List.mem_singleton.mp h]
        exact ⟨_, rfl⟩
    · exact he x (List.mem_of_mem_drop h)
  · rw [List.map_append, List.map_append, List.map_take, List.map_drop]
    exact twice_no (List.mem_map.mpr ⟨p9, List.mem_of_getElem? ep, rfl⟩)
end
end Toy
set_option Elab.async false
set_option linter.all false
set_option maxRecDepth 100000
set_option maxHeartbeats 4000000
namespace Toy
open PySem L2 Gm
open Mine (ite_no ite_yes same_make op_repA)
/-- p' is p below n calls and tosses -/
def Chain (nm : Str) (n : Nat) (p p' : Pl) : Prop := ∀ names, nm ∈ names → (∀ j, chk names (n + j) p' = chk names j p) ∧ ∀ j, j < n → chk names j p' = false
theorem chain_nil (nm : Str) (p : Pl) : Chain nm 0 p p := fun names h => ⟨fun j => by rw [Nat.zero_add], fun j h => absurd h (Nat.not_lt_zero j)⟩
/-- w goes on as p, or ends -/
structure Wrap (nm : Str) (p w : Pl) : Prop where
  head : ∀ names, nm ∈ names → headOk names w = true
  mem : p ∈ w.kids
  rest : ∀ q ∈ w.kids, q = p ∨ ∃ b, q = .say b
theorem wrap_chk {nm : Str} {p w : Pl} (h : Wrap nm p w) {names : List Str} (hn : nm ∈ names) (k : Nat) : chk names (k + 1) w = chk names k p := by
  rw [chk_succ, h.head names hn, Bool.true_and]
  cases e : chk names k p with
  | true =>
    refine List.all_eq_true.mpr fun q hq => ?_
    rcases h.rest q hq with rfl | ⟨b, rfl⟩
    · exact e
    · exact chk_say _ _ _
  | false =>
    refine Bool.eq_false_iff.mpr fun z => ?_
    have := List.all_eq_true.mp z p h.mem
    rw [e] at this
    exact Bool.false_ne_true this
theorem wrap_zero {nm : Str} {p w : Pl} (h : Wrap nm p w) (names : List Str) : chk names 0 w = false := by
  cases w with
  | say b => exact nomatch h.mem
  | ask _ _ _ => rfl
  | toss _ => rfl
theorem chain_more {nm : Str} {n : Nat} {p p' w : Pl} (c : Chain nm n p p') (h : Wrap nm p' w) : Chain nm (n + 1) p w := fun names hn => by
  obtain ⟨c1, c2⟩ := c names hn
  refine ⟨fun j => ?_, fun j hj => ?_⟩
  · have e : n + 1 + j = (n + j) + 1 := by omega
    rw [e, wrap_chk h hn, c1]
  · cases j with
    | zero => exact wrap_zero h names
    | succ j => rw [wrap_chk h hn]; exact c2 j (by omega)
theorem wrap_toss {nm : Str} {p : Pl} {l1 l2 : List Pl} (h1 : ∀ q ∈ l1, ∃ b, q = .say b) (h2 : ∀ q ∈ l2, ∃ b, q = .say b) (hl : l1.length + l2.length ≤ 15) : Wrap nm p (.toss (l1 ++ [p] ++ l2)) := by
  refine ⟨fun names _ => ?_, ?_, fun q hq => ?_⟩
  · show decide (1 ≤ (l1 ++ [p] ++ l2).length ∧ (l1 ++ [p] ++ l2).length ≤ 16) = true
    rw [List.length_append, List.length_append]
    have : [p].length = 1 := rfl
    exact decide_eq_true ⟨by omega, by omega⟩
  · show p ∈ l1 ++ [p] ++ l2
    rw [List.mem_append, List.mem_append]
    exact .inl (.inr (List.mem_singleton.mpr rfl))
  · have hq' : q ∈ l1 ++ [p] ++ l2 := hq
    rw [List.mem_append, List.mem_append, List.mem_singleton] at hq'
    rcases hq' with (h | h) | h
    · exact .inr (h1 q h)
    · exact .inl h
    · exact .inr (h2 q h)
theorem wrap_ask {nm : Str} {p : Pl} {n : Int} {parts : List (Int × Pl)} {i : Nat} {a : Int} (n0 : 0 ≤ n) (hi : i < parts.length) (he : ∀ q ∈ parts, ∃ b, q.2 = .say b) (hf : (parts.map (·.1)).Nodup) (ha : (parts.map (·.1))[i]? = some a) : Wrap nm p (.ask nm n (parts.set i (a, p))) := by
  refine ⟨fun names hn => ?_, ?_, fun q hq => ?_⟩
  · show (decide (nm ∈ names) && (decide (0 ≤ n) && decide (((parts.set i (a, p)).map (·.1)).Nodup))) = true
    have e : (parts.set i (a, p)).map (·.1) = parts.map (·.1) := by
      rw [List.map_set]
      show (parts.map (·.1)).set i a = _
      obtain ⟨h, e⟩ := List.getElem?_eq_some_iff.mp ha
      rw [← e, List.set_getElem_self]
    rw [e, decide_eq_true hn, decide_eq_true n0, decide_eq_true hf]
    rfl
  · refine List.mem_map.mpr ⟨(a, p), ?_, rfl⟩
    exact List.mem_of_getElem? (i := i) (by rw [List.getElem?_set_self hi])
  · obtain ⟨x, hx, rfl⟩ := List.mem_map.mp hq
    rcases List.mem_or_eq_of_mem_set hx with h | h
    · exact .inr (he x h)
    · rw [h]
      exact .inl rfl
def spBelow (K : PySem.W.Frag) : Sp := fun vs H Q _ => ∃ (v bv : V) (p : Pl) (k0 : Nat) (links cell : Int) (nm : Str), vs = [v, .int links, .str nm, bv, .int cell] ∧ PlAt K H v p k0 ∧ PlAt K H bv (.say false) 1 ∧ 1 ≤ k0 ∧ 0 ≤ links ∧ links ≤ 9 ∧ GoodN nm ∧
  ∀ (v' : V) (p' : Pl) (H' : Hp), Same H H' → PlAt K H' v' p' (k0 + 3 * links.toNat) → Chain nm links.toNat p p' → Q v' H'
theorem ans_nodup {x : Int} (h : 5 ≤ x) (n : Nat) : (([0, 1, 2, x] : List Int).take n).Nodup := by
  have h4 : ([0, 1, 2, x] : List Int).Nodup := by
    refine List.nodup_cons.mpr ⟨?_, List.nodup_cons.mpr ⟨?_, List.nodup_cons.mpr ⟨?_, List.nodup_cons.mpr ⟨?_, List.nodup_nil⟩⟩⟩⟩
    · simp; omega
    · simp; omega
    · simp; omega
    · simp
  exact h4.sublist (List.take_sublist _ _)
theorem ans_at {x : Int} {j : Nat} (h : j < 4) : ∃ a, ([0, 1, 2, x] : List Int)[j]? = some a ∧ atI ([.int 0, .int 1, .int 2, .int x] : List V) (j : Int) = some (.int a) := by
  have : j = 0 ∨ j = 1 ∨ j = 2 ∨ j = 3 := by omega
  rcases this with rfl | rfl | rfl | rfl
  · exact ⟨0, rfl, rfl⟩
  · exact ⟨1, rfl, rfl⟩
  · exact ⟨2, rfl, rfl⟩
  · exact ⟨x, rfl, rfl⟩
section
variable {P : Program} {w : World} {K : PySem.W.Frag} {mg : Str → Option Value} {base : Heap}
theorem ok_pbelow (T : Txt K mg) : FnOk P w K mg base CX0 2 T.a_law_below T.fd_law_below ["player", "links", "name", "beside", "cell"] (spBelow K) := by
  have G_law_row : FnOk P w K mg base CX0 1 T.a_law_row T.fd_law_row ["cell", "count", "size"] spRow := ok_row T
  refine T.F_law_below.ok sc_law_below (fun vs H Q E h => ?_) (fun cdv A outer s H vs Q E hr h => ?_)
  · obtain ⟨v, bv, p, k0, L, c, nm, rfl, _⟩ := h
    rfl
  obtain ⟨v, bv, p, k0, L, cell, nm, rfl, pv0, pb, hk0, L0, L9, gn, q⟩ := h
  refine ⟨_, (pss_cons (ps_set (i := 5) sc_law_below.nd rfl (Or.inl rfl) (pe_call G_law_row (hr.mono (by decide)) rfl T.g_law_row T.k_law_row T.b_law_row .nil pass0 (pa_cons (pv 4) (pa_cons (pe_op op_add (pe_op op_mul pe_int (pv 1)) pe_int) (pa_cons pe_int pa_nil)))))
    (pss_cons (ps_for PassesOwn.never rfl (pi_range1 (by rfl) T.z_range (pa_cons (pv 1) pa_nil)) (pg_name (i := 6) sc_law_below.nd rfl (Or.inl rfl))
      (pss_one (ps_if (pt_cmpR op_eq (pe_op op_mod (pe_ix ix_list (pv 5) (pe_op op_mul pe_int (pv 6)) (fun _ _ => rfl)) pe_int) pe_int (nomark _))
      (pss_cons (ps_set (i := 7) sc_law_below.nd rfl (Or.inl rfl) (pe_slice sl_list (pe_lst (pa_cons (pe_tup (pa_cons pe_str (pa_cons pe_bl pa_nil))) (pa_cons (pv 3) pa_nil))) po_none (po_some (pe_op op_mod (pe_ix ix_list (pv 5) (pe_op op_add (pe_op op_mul pe_int (pv 6)) pe_int) (fun _ _ => rfl)) pe_int))))
    (pss_cons (ps_set (i := 8) sc_law_below.nd rfl (Or.inl rfl) (pe_op op_mod (pe_ix ix_list (pv 5) (pe_op op_add (pe_op op_mul pe_int (pv 6)) pe_int) (fun _ _ => rfl)) (pe_op op_add (pe_callB call_len_seq (by rfl) T.z_len (by decide +kernel) (pa_cons (pv 7) pa_nil)) pe_int)))
    (pss_one (ps_set (i := 0) sc_law_below.nd rfl (Or.inl rfl) (pe_tup (pa_cons pe_str (pa_cons (pe_callTy call_tuple_of (by rfl) T.z_tuple (by decide +kernel) (pa_cons (pe_op op_cat (pe_op op_cat (pe_slice sl_list (pv 7) po_none (po_some (pv 8))) (pe_lst (pa_cons (pv 0) pa_nil))) (pe_slice sl_list (pv 7) (po_some (pv 8)) po_none)) pa_nil)) pa_nil)))))))
      (pss_cons (ps_set (i := 9) sc_law_below.nd rfl (Or.inr rfl) (pe_tup (pa_cons pe_int (pa_cons pe_int (pa_cons pe_int (pa_cons (pe_op op_add pe_int (pe_op op_mod (pe_ix ix_list (pv 5) (pe_op op_add (pe_op op_mul pe_int (pv 6)) pe_int) (fun _ _ => rfl)) pe_int)) pa_nil))))))
    (pss_cons (ps_set (i := 10) sc_law_below.nd rfl (Or.inl rfl) (pe_op op_add pe_int (pe_op op_mod (pe_ix ix_list (pv 5) (pe_op op_add (pe_op op_mul pe_int (pv 6)) pe_int) (fun _ _ => rfl)) pe_int)))
    (pss_cons (ps_set (i := 8) sc_law_below.nd rfl (Or.inl rfl) (pe_op op_mod (pe_ix ix_list (pv 5) (pe_op op_add (pe_op op_mul pe_int (pv 6)) pe_int) (fun _ _ => rfl)) (pv 10)))
    (pss_cons (ps_setLc (i := 7) (own := [("j", 11)]) (g := gName 11) (tt := tYes) rfl sc_law_below.nd rfl rfl (sw_true rfl rfl rfl (by decide +kernel)) (pi_range1 (by rfl) T.z_range (pa_cons (pv 10) pa_nil)) (blkOk_by (own := [("j", 11)]) (N := ["player", "links", "name", "beside", "cell", "digits", "k", "parts", "at", "answers", "count", "j"]) (sc := defScope s_law_below) (by decide +kernel)) (fun _ _ _ _ _ => pg_name (i := 11) sc_law_below.nd rfl (Or.inl rfl)) (fun _ _ _ _ _ => pts_nil) (fun _ _ _ _ _ => (pe_tup (pa_cons (pe_ix (ixtK K rfl) (pv 9) (pv 11) (fun _ _ => rfl)) (pa_cons (pe_tup (pa_cons pe_str (pa_cons pe_bl pa_nil))) pa_nil)))))
    (pss_cons (ps_asg (pe_tup (pa_cons (pe_ix ix_tup (pv 9) (pv 8) (fun _ _ => rfl)) (pa_cons (pv 0) pa_nil))) (pg_sub (pv 7) (pv 8) set_list))
    (pss_one (ps_set (i := 0) sc_law_below.nd rfl (Or.inl rfl) (pe_tup (pa_cons pe_str (pa_cons (pv 2) (pa_cons (pe_op op_mod (pe_ix ix_list (pv 5) (pe_op op_add (pe_op op_mul pe_int (pv 6)) pe_int) (fun _ _ => rfl)) pe_int) (pa_cons (pe_callTy call_tuple_of (by rfl) T.z_tuple (by decide +kernel) (pa_cons (pv 7) pa_nil)) pa_nil)))))))))))))))
    (pss_one (ps_ret (pv 0))))), ?_⟩
  have two2 : (2 : Nat) ≤ sizeLine := by decide
  have four4 : (4 : Nat) ≤ sizeLine := by decide
  have one1 : (1 : Nat) ≤ sizeLine := by decide
  refine ⟨_, rfl, _, rfl, _, _, rfl, rfl, .inl ⟨by decide, by decide⟩, _, _, rfl, rfl, cell, 3 * L + 1, 60, rfl, by omega, by omega, by decide, by decide, fun dl ds H1 m1 hD hn hb => ?_⟩
  have dig : ∀ i : Int, 0 ≤ i → i < 3 * L + 1 → ∃ d : Int, (0 ≤ d ∧ d < 60) ∧ atI (ds.map V.int) i = some (.int d) := fun i h0 h1 => by
    have hk : i.toNat < ds.length := by omega
    exact ⟨ds[i.toNat], hb _ (List.getElem_mem hk), at_of (j := i.toNat) (by omega) (by rw [List.getElem?_map, List.getElem?_eq_getElem hk] <;> rfl)⟩
  refine ⟨_, rfl, _, rfl, by omega, by omega, for_range (lo := 0) (n := L.toNat) (fun i σ H' => Same H1 H' ∧ ∃ (u : V) (p' : Pl) (y1 y2 y3 y4 y5 y6 : Option V), PlAt K H' u p' (k0 + 3 * i) ∧ Chain nm i p p' ∧ σ = [some u, some (.int L), some (.str nm), some bv, some (.int cell), some (.ref dl), y1, y2, y3, y4, y5, y6]) ⟨Same.refl _, v, p, none, none, none, none, none, none, pv0.same m1, chain_nil nm p, rfl⟩ ?_ ?_⟩
  · rintro i σ H2 hi ⟨m2, u, p', y1, y2, y3, y4, y5, y6, pu, ch, rfl⟩
    obtain ⟨d0, _, e0⟩ := dig (3 * (0 + (i : Int))) (by omega) (by omega)
    obtain ⟨d1, b1, e1⟩ := dig (3 * (0 + (i : Int)) + 1) (by omega) (by omega)
    obtain ⟨d2, b2, e2⟩ := dig (3 * (0 + (i : Int)) + 2) (by omega) (by omega)
    have hD2 := m2 _ _ hD
    refine ⟨_, rfl, _, rfl, _, _, rfl, rfl, .inl ⟨by decide, by decide⟩, dl, _, _, _, rfl, rfl, SqL.of hD2, e0, _, _, rfl, rfl, (by show (0 : Int) < 2; decide), rfl, _, rfl, ite2 (fun _ => ?_) (fun _ => ?_)⟩
    · -- a toss
      refine ⟨two2, fun t1 h1 => ⟨_, rfl, two2, fun l1 hl1 => ?_⟩⟩
      have n1 := same_new h1 (.tup [.str "say", .bl true])
      have n2 := same_new hl1 (.lst [.ref t1, bv])
      have yes := pl_say (K := K) h1 true
      have n12 := n1.trans n2
      obtain ⟨m, em⟩ : ∃ m : Nat, (m : Int) = d1 % 3 := ⟨(d1 % 3).toNat, by have := Int.emod_nonneg d1 (by decide : (3 : Int) ≠ 0); omega⟩
      have hm : m ≤ ([.ref t1, bv] : List V).length := by
        have := Int.emod_lt_of_pos d1 (by decide : (0 : Int) < 3)
        show m ≤ 2
        omega
      refine ⟨_, rfl, _, rfl, _, _, rfl, rfl, .inl ⟨by decide, by decide⟩, _, _, rfl, rfl, dl, _, _, _, rfl, rfl, SqL.of (n12 _ _ hD2), e1, _, _, rfl, rfl, (by show (0 : Int) < 3; decide), _, rfl, l1, _, rfl, SqL.of upd_same, fun l2 hl2 => ?_⟩
      have ec : cutV [.ref t1, bv] none (some ((fun i j : Int => i % j) d1 3)) = ([.ref t1, bv] : List V).take m := by
        show cutV [.ref t1, bv] none (some (d1 % 3)) = _
        rw [← em]
        exact cut_to hm
      rw [ec]
      have n3 := same_new hl2 (.lst (([.ref t1, bv] : List V).take m))
      have n13 := n12.trans n3
      have hm2 : (([.ref t1, bv] : List V).take m).length = m := by rw [List.length_take]; exact Nat.min_eq_left hm
      refine ⟨_, rfl, _, rfl, _, _, rfl, rfl, .inl ⟨by decide, by decide⟩, _, _, rfl, rfl, dl, _, _, _, rfl, rfl, SqL.of (n13 _ _ hD2), e2, _, rfl, l2, _, rfl, .inl (SqL.of upd_same), _, _, rfl, rfl, _, _, rfl, rfl, (by rw [hm2]; show (0 : Int) < (m : Int) + 1; omega), ?_⟩
      rw [hm2]
      obtain ⟨n, en⟩ : ∃ n : Nat, (n : Int) = d2 % ((m : Int) + 1) := ⟨(d2 % ((m : Int) + 1)).toNat, by have := Int.emod_nonneg d2 (by omega : (m : Int) + 1 ≠ 0); omega⟩
      have hn' : n ≤ (([.ref t1, bv] : List V).take m).length := by
        have := Int.emod_lt_of_pos d2 (by omega : (0 : Int) < (m : Int) + 1)
        rw [hm2]
        omega
      dsimp only
      rw [← en]
      have c1 := cut_to hn'
      have c2 := cut_from hn'
      have hl2' := upd_same (H := upd (upd H2 t1 (.tup [.str "say", .bl true])) l1 (.lst [.ref t1, bv])) (a := l2) (o := .lst (([.ref t1, bv] : List V).take m))
      refine ⟨_, rfl, _, rfl, _, rfl, l2, _, rfl, SqL.of hl2', fun s1 hs1 => ?_⟩
      rw [c1]
      have n4 := same_new hs1 (.lst ((([.ref t1, bv] : List V).take m).take n))
      refine ⟨_, rfl, one1, fun s2 hs2 => ?_⟩
      have n5 := same_new hs2 (.lst [u])
      refine ⟨s1, s2, _, _, rfl, rfl, n5 _ _ upd_same, upd_same, sm1000 (by rw [List.length_take, hm2]; show _ + 1 ≤ 1000; omega), fun s3 hs3 => ?_⟩
      have n6 := same_new hs3 (.lst ((([.ref t1, bv] : List V).take m).take n ++ [u]))
      have n46 := n4.trans (n5.trans n6)
      refine ⟨_, rfl, _, rfl, _, rfl, l2, _, rfl, SqL.of (n46 _ _ hl2'), fun s4 hs4 => ?_⟩
      rw [c2]
      have n7 := same_new hs4 (.lst ((([.ref t1, bv] : List V).take m).drop n))
      refine ⟨s3, s4, _, _, rfl, rfl, n7 _ _ upd_same, upd_same, sm1000 (by rw [List.length_append, List.length_take, List.length_drop, hm2]; show _ + 1 + _ ≤ 1000; omega), fun s5 hs5 => ?_⟩
      have n8 := same_new hs5 (.lst ((([.ref t1, bv] : List V).take m).take n ++ [u] ++ (([.ref t1, bv] : List V).take m).drop n))
      refine ⟨s5, _, rfl, .inl ⟨SqL.of upd_same, fun tp htp => ⟨two2, fun a ha => ?_⟩⟩⟩
      have n9 := same_new htp (.tup ((([.ref t1, bv] : List V).take m).take n ++ [u] ++ (([.ref t1, bv] : List V).take m).drop n))
      have n49 := n46.trans (n7.trans (n8.trans n9))
      have n19 := n13.trans n49
      have base2 : DpAll K _ [.ref t1, bv] ([Pl.say true, Pl.say false].map Pl.d) := .cons (dp_mono (n2.trans (n3.trans n49)) _ _ yes.d) (.cons (dp_mono (m2.trans n19) _ _ (pb.same m1).d) .nil)
      have dall := DpAll.app (DpAll.app (dps_take n (dps_take m base2)) (.cons (dp_mono n19 _ _ pu.d) .nil)) (dps_drop n (dps_take m base2))
      have ed : ((([Pl.say true, Pl.say false].take m).take n ++ [p'] ++ ([Pl.say true, Pl.say false].take m).drop n).map Pl.d) = (([Pl.say true, Pl.say false].map Pl.d).take m).take n ++ [p'.d] ++ (([Pl.say true, Pl.say false].map Pl.d).take m).drop n := by
        rw [List.map_append, List.map_append, List.map_take, List.map_drop, List.map_take]
        rfl
      rw [← ed] at dall
      have says : ∀ x ∈ ([Pl.say true, Pl.say false] : List Pl), ∃ b, x = .say b := by
        intro x hx
        simp only [List.mem_cons, List.not_mem_nil, or_false] at hx
        rcases hx with rfl | rfl
        · exact ⟨_, rfl⟩
        · exact ⟨_, rfl⟩
      have s1' : ∀ x ∈ (([Pl.say true, Pl.say false] : List Pl).take m).take n, ∃ b, x = .say b := fun x hx => says x (List.mem_of_mem_take (List.mem_of_mem_take hx))
      have s2' : ∀ x ∈ (([Pl.say true, Pl.say false] : List Pl).take m).drop n, ∃ b, x = .say b := fun x hx => says x (List.mem_of_mem_take (List.mem_of_mem_drop hx))
      have lens : ((([Pl.say true, Pl.say false] : List Pl).take m).take n).length + ((([Pl.say true, Pl.say false] : List Pl).take m).drop n).length ≤ 15 := by
        rw [List.length_take, List.length_drop, List.length_take]
        show min n (min m 2) + (min m 2 - n) ≤ 15
        omega
      have wr := wrap_toss (nm := nm) (p := p') s1' s2' lens
      have pt := pl_toss (K := K) (k := k0 + 3 * i) ha (.tup (SqT.of upd_same) dall) (by rw [List.length_append, List.length_append]; show _ + 1 + _ ≤ 1000; omega) (fun x hx => by
        rcases wr.rest x hx with rfl | ⟨b, rfl⟩
        · exact ⟨pu.s, pu.l⟩
        · exact ⟨.say b, (lay_say b).mono (by omega)⟩)
      exact ⟨m2.trans (n19.trans (same_new ha _)), _, _, _, _, _, _, _, _, pt.mono (by omega), chain_more ch wr, rfl⟩
    · -- a question
      refine ⟨_, rfl, _, rfl, _, _, rfl, rfl, .inl ⟨by decide, by decide⟩, _, _, rfl, rfl, dl, _, _, _, rfl, rfl, SqL.of hD2, e1, _, _, rfl, rfl, (by show (0 : Int) < 50; decide), _, _, rfl, rfl, four4, fun ap hap => ?_⟩
      have z0 := Int.emod_nonneg d1 (by decide : (50 : Int) ≠ 0)
      have n1 := same_new hap (.tup [.int 0, .int 1, .int 2, .int (5 + d1 % 50)])
      have hap1 := upd_same (H := H2) (a := ap) (o := .tup [.int 0, .int 1, .int 2, .int (5 + d1 % 50)])
      have hD3 := SqL.of (K := K) (n1 _ _ hD2)
      refine ⟨_, rfl, _, rfl, _, _, rfl, rfl, .inl ⟨by decide, by decide⟩, _, _, rfl, rfl, dl, _, _, _, rfl, rfl, hD3, e2, _, _, rfl, rfl, (by show (0 : Int) < 4; decide), _, _, rfl, rfl, ?_⟩
      have w0 := Int.emod_nonneg d2 (by decide : (4 : Int) ≠ 0)
      have w1 := Int.emod_lt_of_pos d2 (by decide : (0 : Int) < 4)
      obtain ⟨cn, ecn⟩ : ∃ cn : Nat, (cn : Int) = 1 + d2 % 4 := ⟨(1 + d2 % 4).toNat, by omega⟩
      dsimp only
      rw [← ecn]
      refine ⟨_, rfl, _, rfl, _, _, rfl, rfl, .inl ⟨by decide, by decide⟩, _, _, rfl, rfl, dl, _, _, _, rfl, rfl, hD3, e1, _, rfl, _, _, rfl, rfl, (by show (0 : Int) < (cn : Int); omega), ?_⟩
      obtain ⟨n, en⟩ : ∃ n : Nat, (n : Int) = d1 % (cn : Int) := ⟨(d1 % (cn : Int)).toNat, by have := Int.emod_nonneg d1 (by omega : (cn : Int) ≠ 0); omega⟩
      have hn' : n < cn := by
        have := Int.emod_lt_of_pos d1 (by omega : (0 : Int) < (cn : Int))
        omega
      dsimp only
      rw [← en]
      refine ⟨_, rfl, _, rfl, by omega, by omega, fun D hDn => ?_⟩
      refine lc_range (lo := 0) (n := (cn : Int).toNat) (fun j H' => ∃ (us : List V) (ps : List (Int × Pl)), Acc K (upd H2 ap (.tup [.int 0, .int 1, .int 2, .int (5 + d1 % 50)])) H' D us (ps.map partD) ∧ ps.map (·.1) = ([0, 1, 2, 5 + d1 % 50] : List Int).take j ∧ ps.length = j ∧ Ends ps) ⟨[], [], Acc.start hDn, rfl, rfl, fun q hq => nomatch hq⟩ ?_ ?_
      · rintro j H3 hj ⟨us, ps, ac, hf, hl, he⟩
        obtain ⟨a, ea, ea'⟩ := ans_at (x := 5 + d1 % 50) (j := j) (by omega)
        have ea2 : atI ([.int 0, .int 1, .int 2, .int (5 + d1 % 50)] : List V) (0 + (j : Int)) = some (.int a) := by rw [Int.zero_add]; exact ea'
        refine ⟨rfl, _, rfl, _, rfl, ap, _, _, _, rfl, rfl, SqT.of (ac.s _ _ hap1), ea2, two2, fun t1 h1 => ⟨two2, fun t2 h2 => ?_⟩⟩
        have pl := pl_say (K := K) h1 true
        have k1 := same_new h1 (.tup [.str "say", .bl true])
        have k2 := same_new h2 (.tup [.int a, .ref t1])
        have ac' := ((ac.grow k1).grow k2).add (pl_part (n := a) h2 pl.d) (partD_nol _)
        refine ⟨us, ((ac.grow k1).grow k2).l, ?_, us ++ [.ref t2], ps ++ [(a, .say true)], by rw [List.map_append]; exact ac', ?_, by rw [List.length_append, hl]; rfl, fun x hx => ?_⟩
        · have := ac.len
          rw [List.length_map] at this
          exact sl1000 (by omega)
        · rw [List.map_append, hf, take_more ea]
          rfl
        · rcases List.mem_append.mp hx with h | h
          · exact he x h
          · rw [List.mem_singleton.mp h]
            exact ⟨_, rfl⟩
      rintro H3 ⟨us, ps, ac, hf, hl, he⟩
      have hl' : ps.length = cn := by rw [hl]; omega
      have ul : us.length = cn := by rw [ac.len, List.length_map, hl']
      obtain ⟨a, ea, ea'⟩ := ans_at (x := 5 + d1 % 50) (j := n) (by omega)
      have m13 := n1.trans ac.s
      refine ⟨_, rfl, _, rfl, ap, _, _, _, rfl, rfl, SqT.of (ac.s _ _ hap1), ea', _, rfl, two2, fun t9 h9 => ?_⟩
      have k9 := same_new h9 (.tup [.int a, u])
      have ix : ixN us.length (n : Int) = some n := by
        unfold ixN
        rw [if_pos (by omega), if_pos (by omega)]
        rfl
      have acg := ac.grow k9
      have du := pl_part (K := K) (n := a) h9 (dp_mono m13 _ _ pu.d)
      refine ⟨_, rfl, _, rfl, D, us, _, n, rfl, rfl, acg.l, ix, ?_⟩
      have tp9 : Tups (upd H3 t9 (.tup [.int a, u])) (upd (upd H3 t9 (.tup [.int a, u])) D (.lst (us.set n (.ref t9)))) := Tups.lst acg.l
      have m9 : Same H2 (upd (upd H3 t9 (.tup [.int a, u])) D (.lst (us.set n (.ref t9)))) := fun b o e => by
        have e1 := m13 _ _ e
        have : b ≠ D := fun z => by
          have h1 := n1 _ _ e
          rw [z, hDn] at h1
          cases h1
        rw [upd_ne this]
        exact k9 _ _ e1
      have dset : DpAll K (upd (upd H3 t9 (.tup [.int a, u])) D (.lst (us.set n (.ref t9)))) (us.set n (.ref t9)) ((ps.map partD).set n (partD (a, p'))) := dps_set n (dp_tupsAll tp9 _ _ acg.n acg.d) (dp_tups tp9 _ _ (partD_nol _) du)
      have es : (ps.map partD).set n (partD (a, p')) = (ps.set n (a, p')).map partD := by rw [List.map_set]
      rw [es] at dset
      refine ⟨_, rfl, _, rfl, _, rfl, _, _, rfl, rfl, .inl ⟨by decide, by decide⟩, _, _, rfl, rfl, dl, _, _, _, rfl, rfl, SqL.of (m9 _ _ hD2), e2, _, _, rfl, rfl, (by show (0 : Int) < 9; decide), _, rfl, D, _, rfl, .inl ⟨SqL.of upd_same, fun tp htp => ⟨four4, fun ax hax => ?_⟩⟩⟩
      have kt := same_new htp (.tup (us.set n (.ref t9)))
      have dt : Dp K _ (.ref tp) (.tuple ((ps.set n (a, p')).map partD)) := .tup (SqT.of (upd_same (a := tp) (o := .tup (us.set n (.ref t9))))) (dp_monoAll kt _ _ dset)
      have fa : (ps.map (·.1))[n]? = some a := by rw [hf, List.getElem?_take_of_lt (by omega)]; exact ea
      have wr := wrap_ask (nm := nm) (p := p') (n := d2 % 9) (parts := ps) (i := n) (a := a) (Int.emod_nonneg _ (by decide)) (by omega) he (by rw [hf]; exact ans_nodup (by omega) _) fa
      have pt := pl_ask (K := K) (k := k0 + 3 * i) (n := d2 % 9) hax dt gn.1 gn.2 (by rw [List.length_set]; omega) (fun x hx => by
        rcases wr.rest x.2 (List.mem_map.mpr ⟨x, hx, rfl⟩) with e | ⟨b, e⟩
        · rw [e]; exact ⟨pu.s, pu.l⟩
        · rw [e]; exact ⟨.say b, (lay_say b).mono (by omega)⟩)
      exact ⟨m2.trans (m9.trans (kt.trans (same_new hax _))), _, _, _, _, _, _, _, _, pt.mono (by omega), chain_more ch wr, rfl⟩
  · rintro σ H2 ⟨m2, u, p', y1, y2, y3, y4, y5, y6, pu, ch, rfl⟩
    exact ⟨_, rfl, q _ _ _ (m1.trans m2) pu ch⟩
end
end Toy
set_option Elab.async false
set_option linter.all false
set_option maxRecDepth 100000
set_option maxHeartbeats 4000000
namespace Toy
open PySem L2 Gm
open Mine (ite_no ite_yes same_make op_repA rRepA rIsE1 rIsET call_isE1 call_isET)
/-- xs + ys of tuples, whichever object comes of it -/
theorem catA_of {K : PySem.W.Frag} {H : Hp} {Q : VK} {a b : Addr} {xs ys : List V} (ha : SqT K H a xs) (hb : SqT K H b ys) (hl : xs.length + ys.length ≤ sizeLine) (k : ∀ p H', Same H H' → SqT K H' p (xs ++ ys) → Q (.ref p) H') : rCatA K (.ref a) (.ref b) H Q := by
  refine ⟨a, b, xs, ys, rfl, rfl, ha, hb, hl, fun e => k b H (Same.refl _) (by rw [e]; exact hb), fun _ e => k a H (Same.refl _) (by rw [e, List.append_nil]; exact ha), fun _ _ p hp => k p _ (same_new hp _) (SqT.of upd_same)⟩
theorem flat_rep {α : Type} (n : Nat) (x : α) : (List.replicate n [x]).flatten = List.replicate n x := by
  induction n with
  | zero => rfl
  | succ n ih =>
    rw [List.replicate_succ, List.flatten_cons, ih]
    rfl
theorem dps_rep {K : PySem.W.Frag} {H : Hp} {v : V} {p : Pl} (h : Dp K H v p.d) : ∀ n : Nat, DpAll K H (List.replicate n v) ((List.replicate n p).map Pl.d)
  | 0 => .nil
  | n + 1 => .cons h (dps_rep h n)
theorem bad_head {p : Pl} {names : List Str} (h : headOk names p = false) (k : Nat) : chk names k p = false := by
  cases k with
  | zero =>
    cases p with
    | say b => exact absurd h (by simp [headOk])
    | ask _ _ _ => rfl
    | toss _ => rfl
  | succ k => rw [chk_succ, h]; rfl
/-- a player that fits no game without a procedure zz -/
def Bad (p : Pl) : Prop := ∀ names, ("zz" : Str) ∉ names → headOk names p = false
theorem pick6 {K : PySem.W.Frag} {H : Hp} {r0 r1 r2 r3 r4 r5 : Addr} {p0 p1 p2 p3 p4 p5 : Pl} {way : Int} (h0 : PlAt K H (.ref r0) p0 6) (b0 : Bad p0) (h1 : PlAt K H (.ref r1) p1 6) (b1 : Bad p1) (h2 : PlAt K H (.ref r2) p2 6) (b2 : Bad p2)
    (h3 : PlAt K H (.ref r3) p3 6) (b3 : Bad p3) (h4 : PlAt K H (.ref r4) p4 6) (b4 : Bad p4) (h5 : PlAt K H (.ref r5) p5 6) (b5 : Bad p5) : ∃ (v : V) (p : Pl), atI ([.ref r0, .ref r1, .ref r2] ++ [.ref r3, .ref r4, .ref r5] : List V) (way % 6) = some v ∧ PlAt K H v p 6 ∧ Bad p := by
  have : way % 6 = 0 ∨ way % 6 = 1 ∨ way % 6 = 2 ∨ way % 6 = 3 ∨ way % 6 = 4 ∨ way % 6 = 5 := by omega
  rcases this with e | e | e | e | e | e <;> rw [e]
  · exact ⟨_, _, rfl, h0, b0⟩
  · exact ⟨_, _, rfl, h1, b1⟩
  · exact ⟨_, _, rfl, h2, b2⟩
  · exact ⟨_, _, rfl, h3, b3⟩
  · exact ⟨_, _, rfl, h4, b4⟩
  · exact ⟨_, _, rfl, h5, b5⟩
def spFaulty (K : PySem.W.Frag) : Sp := fun vs H Q _ => ∃ (way : Int) (nm : Str), vs = [.int way, .str nm] ∧ GoodN nm ∧ ∀ (v : V) (p : Pl) (H' : Hp), Same H H' → PlAt K H' v p 6 → Bad p → Q v H'
def spMade (K : PySem.W.Frag) (C : Addr) : Sp := fun vs H Q _ => ∃ (a pa : Addr) (x y z : V) (xs : List V) (names : List Str), vs = [.ref a] ∧ SqT K H a [x, y, z, .ref pa] ∧ SqT K H pa xs ∧ HeadsAt K H xs names ∧ ∀ (g : Addr) (H' : Hp), Same H H' → GmAt K C H' g names → Q (.ref g) H'
def spRefused (K : PySem.W.Frag) (C : Addr) : Sp := fun vs H Q _ => ∃ (g : Addr) (v : V) (b : Bool) (p : Pl) (names : List Str), vs = [.ref g, v, .bl b] ∧ GmAt K C H g names ∧ PlAt K H v p 60 ∧ chk names 8 p = false ∧ ∀ H', Same H H' → Q (.bl true) H'
def tb_ref (C B : Addr) (K : PySem.W.Frag) : WX → TS := fun W => tIfS (tB (tVar 2)) (tDrop (tCallS (spChanceBad K C B) (WE W) (tCons (tVar 0) (tCons (tVar 1) tNil)))) (tDrop (tCallS (spCheck K C B) (WE W) (tCons (tVar 0) (tCons (tVar 1) tNil))))
def ts_ref (K : PySem.W.Frag) {mg : Str → Option Value} (T : Txt K mg) : Addr → Value → Option Addr → TS := fun a cls d =>
  tRet (tAndV (tCB (rIsE1 K T.C_BadPlayer a cls d) (tCons (tVar 3) (tCons (tC (.ref T.C_BadPlayer)) tNil)))
    (tNotV (tCB (rIsET K T.C_BadPlayer a cls d) (tCons (tVar 3) (tCons (tTup (tCons (tC (.ref T.C_BadBound)) (tCons (tC (.ref T.C_BadCall)) (tCons (tC (.ref T.C_BadPaper)) (tCons (tC (.ref T.C_BadStep)) (tCons (tC (.ref T.C_BadText)) (tCons (tC (.ref T.C_TooLarge)) tNil))))))) tNil)))))
section
variable {P : Program} {w : World} {K : PySem.W.Frag} {mg : Str → Option Value} {base : Heap}
theorem ok_made (T : Txt K mg) : FnOk P w K mg base CX0 3 T.a_law_made T.fd_law_made ["game"] (spMade K T.C_Game) := by
  have G_Game_init : FnOk P w K mg base CX0 1 T.a_Game_init T.fd_Game_init ["self", "variables", "tables", "lots", "procs"] (spGInit T.C_Game) := ok_ginit T
  refine T.F_law_made.ok sc_law_made (fun vs H Q E h => ?_) (fun cdv A outer s H vs Q E hr h => ?_)
  · obtain ⟨a, pa, x, y, z, xs, names, rfl, _⟩ := h
    rfl
  obtain ⟨a, pa, x, y, z, xs, names, rfl, ha, hpa, hh, q⟩ := h
  refine ⟨_, (pss_one (ps_ret (pe_make T.mk_Game G_Game_init (hr.mono (by decide)) rfl T.g_Game T.b_Game_init .nil pass0 (pa_cons (pe_ix ix_tup (pv 0) pe_int (fun _ _ => rfl)) (pa_cons (pe_ix ix_tup (pv 0) pe_int (fun _ _ => rfl)) (pa_cons (pe_ix ix_tup (pv 0) pe_int (fun _ _ => rfl)) (pa_cons (pe_ix ix_tup (pv 0) pe_int (fun _ _ => rfl)) pa_nil))))))), ?_⟩
  refine ⟨_, rfl, a, _, _, _, rfl, rfl, ha, rfl, _, rfl, a, _, _, _, rfl, rfl, ha, rfl, _, rfl, a, _, _, _, rfl, rfl, ha, rfl, _, rfl, a, _, _, _, rfl, rfl, ha, rfl, fun g dx ng nd ne => ?_⟩
  refine ⟨g, dx, x, y, z, .ref pa, rfl, upd_same, fun H1 e1 hk => ⟨rfl, ?_⟩⟩
  have m : Same H H1 := fun b o e => hk b o (same_make ng nd b o e) (ne_of_none e ng)
  exact q g H1 m ⟨dx, x, y, z, pa, xs, e1, sqT_mono m hpa, hh.same m⟩
theorem ok_refused (T : Txt K mg) : FnOk P w K mg base CX0 15 T.a_law_refused T.fd_law_refused ["made", "player", "whole_v"] (spRefused K T.C_Game) := by
  have G_chance : FnOk P w K mg base (L2.CX P w) 13 T.a_chance T.fd_chance ["game", "player"] (spChanceBad K T.C_Game T.C_BadPlayer) := ok_chance_bad T
  have G_check_player : FnOk P w K mg base (L2.CX P w) 12 T.a_check_player T.fd_check_player ["game", "player"] (spCheck K T.C_Game T.C_BadPlayer) := ok_check T
  refine T.F_law_refused.ok sc_law_refused (fun vs H Q E h => ?_) (fun cdv A outer s H vs Q E hr h => ?_)
  · obtain ⟨g, v, b, p, names, rfl, _⟩ := h
    rfl
  obtain ⟨g, v, b, p, names, rfl, gm, pl, bad, q⟩ := h
  refine ⟨_, (pss_cons (ps_try_as (i := 3) (tb := tb_ref T.C_Game T.C_BadPlayer K) (ts := ts_ref K T) (Wout := fun _ _ _ _ => False) rfl rfl sc_law_refused.nd rfl rfl ⟨rfl, by decide, Or.inl T.g_PlayError⟩ takes0
      (fun W pn xe tk _ => by exact (pss_one (ps_if (pt_val (pv 2))
      (pss_one (ps_expr (pe_callS G_chance (hr.mono (by decide)) rfl T.g_chance T.k_chance T.b_chance (fun σ => passAt tk σ) (pa_cons (pv 0) (pa_cons (pv 1) pa_nil)))))
      (pss_one (ps_expr (pe_callS G_check_player (hr.mono (by decide)) rfl T.g_check_player T.k_check_player T.b_check_player (fun σ => passAt tk σ) (pa_cons (pv 0) (pa_cons (pv 1) pa_nil))))))))
      (fun a oe cls d pn hz hf => by exact (pss_one (ps_ret (pe_and (pe_callB (call_isE1 T.ec_BadPlayer hz hf) (by rfl) T.z_isinstance (by decide +kernel) (pa_cons (pv 3) (pa_cons (pe_glob (v := .ref T.C_BadPlayer) rfl T.g_BadPlayer rfl) pa_nil))) (pe_one (pe_not (pe_callB (call_isET T.ec_BadPlayer hz hf) (by rfl) T.z_isinstance (by decide +kernel) (pa_cons (pv 3) (pa_cons (pe_tup (pa_cons (pe_glob (v := .ref T.C_BadBound) rfl T.g_BadBound rfl) (pa_cons (pe_glob (v := .ref T.C_BadCall) rfl T.g_BadCall rfl) (pa_cons (pe_glob (v := .ref T.C_BadPaper) rfl T.g_BadPaper rfl) (pa_cons (pe_glob (v := .ref T.C_BadStep) rfl T.g_BadStep rfl) (pa_cons (pe_glob (v := .ref T.C_BadText) rfl T.g_BadText rfl) (pa_cons (pe_glob (v := .ref T.C_TooLarge) rfl T.g_TooLarge rfl) pa_nil))))))) pa_nil))))))))))
    (pss_one (ps_ret pe_bl))), ?_⟩
  have six : (6 : Nat) ≤ sizeLine := by decide
  cases b with
  | true =>
    refine ⟨_, rfl, true, rfl, iteT ?_⟩
    refine ⟨_, rfl, _, rfl, g, v, names, p, rfl, gm, pl.d, pl.s, pl.l, bad, fun H1 m1 => ?_⟩
    refine ⟨true, PySem.W.exm_ref T.xb_PlayError T.xd_PlayError T.xt_PlayError T.sub_bp, fun _ a na => ?_, fun z => Bool.noConfusion z⟩
    refine ⟨_, rfl, _, _, true, rfl, rfl, rfl, fun u r => r, T.ki_b, true, rfl, iteT ?_⟩
    refine ⟨_, rfl, six, fun t ht => ?_⟩
    refine ⟨t, _, _, false, rfl, rfl, rfl, upd_same, .cons (.own _) (.cons (.own _) (.cons (.own _) (.cons (.own _) (.cons (.own _) (.cons (.own _) .nil))))), T.ki_e, false, rfl, ?_⟩
    exact q _ (m1.trans (same_new ht _))
  | false =>
    refine ⟨_, rfl, false, rfl, iteF ?_⟩
    refine ⟨_, rfl, _, rfl, g, v, names, p, rfl, gm, pl.d, pl.s, pl.l, (fun z => by rw [bad] at z; exact Bool.noConfusion z), fun _ H1 m1 => ?_⟩
    refine ⟨true, PySem.W.exm_ref T.xb_PlayError T.xd_PlayError T.xt_PlayError T.sub_bp, fun _ a na => ?_, fun z => Bool.noConfusion z⟩
    refine ⟨_, rfl, _, _, true, rfl, rfl, rfl, fun u r => r, T.ki_b, true, rfl, iteT ?_⟩
    refine ⟨_, rfl, six, fun t ht => ?_⟩
    refine ⟨t, _, _, false, rfl, rfl, rfl, upd_same, .cons (.own _) (.cons (.own _) (.cons (.own _) (.cons (.own _) (.cons (.own _) (.cons (.own _) .nil))))), T.ki_e, false, rfl, ?_⟩
    exact q _ (m1.trans (same_new ht _))
theorem ok_faulty (T : Txt K mg) : FnOk P w K mg base CX0 2 T.a_law_faulty T.fd_law_faulty ["way", "name"] (spFaulty K) := by
  have G_law_twice : FnOk P w K mg base CX0 1 T.a_law_twice T.fd_law_twice ["cell"] (spTwice K) := ok_twice T
  refine T.F_law_faulty.ok sc_law_faulty (fun vs H Q E h => ?_) (fun cdv A outer s H vs Q E hr h => ?_)
  · obtain ⟨way, nm, rfl, _⟩ := h
    rfl
  obtain ⟨way, nm, rfl, gn, q⟩ := h
  refine ⟨_, (pss_cons (ps_set (i := 2) sc_law_faulty.nd rfl (Or.inl rfl) (pe_tup (pa_cons pe_str (pa_cons pe_bl pa_nil))))
    (pss_cons (ps_set (i := 3) sc_law_faulty.nd rfl (Or.inl rfl) (pe_lst (pa_cons (pe_tup (pa_cons pe_str (pa_cons pe_str (pa_cons pe_int (pa_cons (pe_tup (pa_cons (pe_tup (pa_cons pe_int (pa_cons (pv 2) pa_nil))) pa_nil)) pa_nil))))) (pa_cons (pe_tup (pa_cons pe_str (pa_cons (pv 1) (pa_cons (pe_un un_neg pe_int) (pa_cons (pe_tup pa_nil) pa_nil))))) (pa_cons (pe_tup (pa_cons pe_str (pa_cons (pv 1) (pa_cons pe_int (pa_cons (pe_call G_law_twice (hr.mono (by decide)) rfl T.g_law_twice T.k_law_twice T.b_law_twice .nil pass0 (pa_cons (pe_op op_fdivW (pv 0) pe_int) pa_nil)) pa_nil))))) pa_nil)))))
    (pss_cons (ps_set (i := 3) sc_law_faulty.nd rfl (Or.inl rfl) (pe_op op_cat (pv 3) (pe_lst (pa_cons (pe_tup (pa_cons pe_str (pa_cons (pe_tup pa_nil) pa_nil))) (pa_cons (pe_tup (pa_cons pe_str (pa_cons (pe_op op_repA (pe_tup (pa_cons (pv 2) pa_nil)) pe_int) pa_nil))) (pa_cons (pe_tup (pa_cons pe_str (pa_cons (pe_op op_catA (pe_op op_repA (pe_tup (pa_cons (pv 2) pa_nil)) pe_int) (pe_tup (pa_cons (pe_tup (pa_cons pe_str (pa_cons pe_bl pa_nil))) pa_nil))) pa_nil))) pa_nil))))))
    (pss_one (ps_ret (pe_ix ix_list (pv 3) (pe_op op_mod (pv 0) pe_int) (fun _ _ => rfl))))))), ?_⟩
  have zero0 : (0 : Nat) ≤ sizeLine := by decide
  have one1 : (1 : Nat) ≤ sizeLine := by decide
  have two2 : (2 : Nat) ≤ sizeLine := by decide
  have three3 : (3 : Nat) ≤ sizeLine := by decide
  have four4 : (4 : Nat) ≤ sizeLine := by decide
  refine ⟨two2, fun y hy => ?_⟩
  have ky := same_new hy (.tup [.str "say", .bl true])
  have Y := pl_say (K := K) hy true
  refine ⟨_, rfl, two2, fun i1 h1 => ⟨one1, fun i2 h2 => ⟨four4, fun r0 hr0 => ?_⟩⟩⟩
  have k1 := same_new h1 (.tup [.int 0, .ref y])
  have k2 := same_new h2 (.tup [.ref i1])
  have k3 := same_new hr0 (.tup [.str "ask", .str "zz", .int 0, .ref i2])
  have R0 := pl_ask (K := K) (k := 1) (n := 0) (p := "zz") (parts := [(0, .say true)]) hr0 (dp_tup h2 (.cons (pl_part (n := 0) h1 Y.d) .nil)) (by decide +kernel) (by decide +kernel) (by decide) (ends_ok fun x hx => by rw [List.mem_singleton.mp hx]; exact ⟨_, rfl⟩)
  refine ⟨_, rfl, _, rfl, zero0, fun e1 he1 => ⟨four4, fun r1 hr1 => ?_⟩⟩
  have k4 := same_new he1 (.tup [])
  have k5 := same_new hr1 (.tup [.str "ask", .str nm, .int (-1), .ref e1])
  have R1 := pl_ask (K := K) (k := 1) (n := -1) (p := nm) (parts := []) hr1 (dp_tup he1 .nil) gn.1 gn.2 (by decide) (fun x hx => nomatch hx)
  refine ⟨_, rfl, _, rfl, _, _, rfl, rfl, ⟨by decide, by decide⟩, _, rfl, fun tv ps H1 m1 dt hl he hnd => ⟨four4, fun r2 hr2 => ⟨three3, fun l hl1 => ?_⟩⟩⟩
  have k6 := same_new hr2 (.tup [.str "ask", .str nm, .int 0, tv])
  have R2 := pl_ask (K := K) (k := 1) (n := 0) (p := nm) hr2 dt gn.1 gn.2 (by omega) (ends_ok he)
  have k7 := same_new hl1 (.lst [.ref r0, .ref r1, .ref r2])
  have hl1' := upd_same (H := upd H1 r2 (.tup [.str "ask", .str nm, .int 0, tv])) (a := l) (o := .lst [.ref r0, .ref r1, .ref r2])
  have k17 := k1.trans (k2.trans (k3.trans (k4.trans (k5.trans (m1.trans (k6.trans k7))))))
  have R0 := R0.same (k4.trans (k5.trans (m1.trans (k6.trans k7))))
  have R1 := R1.same (m1.trans (k6.trans k7))
  have R2 := R2.same k7
  have Y := Y.same k17
  -- three more
  refine ⟨_, rfl, zero0, fun e2 he2 => ⟨two2, fun r3 hr3 => ?_⟩⟩
  have k8 := same_new he2 (.tup [])
  have k9 := same_new hr3 (.tup [.str "toss", .ref e2])
  have R3 := pl_toss (K := K) (k := 1) (ps := []) hr3 (dp_tup he2 .nil) (by decide) (fun x hx => nomatch hx)
  refine ⟨_, rfl, one1, fun o1 ho1 => ?_⟩
  have k10 := same_new ho1 (.tup [.ref y])
  refine ⟨o1, 17, _, rfl, rfl, SqT.of upd_same, (fun z => nomatch z), by decide, by decide, (by show 1 ≤ 1000; decide), fun q5 H5 m5 h5 => ⟨two2, fun r4 hr4 => ?_⟩⟩
  have h5' : SqT K H5 q5 (List.replicate 17 (V.ref y)) := by rw [← flat_rep]; exact h5
  have k810 := k8.trans (k9.trans (k10.trans m5))
  have k11 := same_new hr4 (.tup [.str "toss", .ref q5])
  have R4 := pl_toss (K := K) (k := 1) (ps := List.replicate 17 (.say true)) hr4 (.tup h5' (dps_rep (Y.same k810).d 17)) (by rw [List.length_replicate]; decide) (fun x hx => by rw [(List.mem_replicate.mp hx).2]; exact ⟨.say true, lay_say true⟩)
  refine ⟨_, rfl, one1, fun o2 ho2 => ?_⟩
  have k12 := same_new ho2 (.tup [.ref y])
  refine ⟨o2, 16, _, rfl, rfl, SqT.of upd_same, (fun z => nomatch z), by decide, by decide, (by show 1 ≤ 1000; decide), fun q6 H6 m6 h6 => ⟨two2, fun f1 hf1 => ⟨one1, fun f2 hf2 => ?_⟩⟩⟩
  have h6' : SqT K H6 q6 (List.replicate 16 (V.ref y)) := by rw [← flat_rep]; exact h6
  have k13 := same_new hf1 (.tup [.str "say", .bl false])
  have F1 := pl_say (K := K) hf1 false
  have k14 := same_new hf2 (.tup [.ref f1])
  refine catA_of (sqT_mono (k13.trans k14) h6') (SqT.of upd_same) (by rw [List.length_replicate]; show 16 + 1 ≤ sizeLine; decide) fun c1 H7 m7 hc1 => ⟨two2, fun r5 hr5 => ?_⟩
  have k15 := same_new hr5 (.tup [.str "toss", .ref c1])
  have YY := Y.same (k810.trans (k11.trans (k12.trans (m6.trans (k13.trans (k14.trans m7))))))
  have dl := DpAll.app (dps_rep YY.d 16) (.cons (F1.same (k14.trans m7)).d .nil)
  have el : ((List.replicate 16 (Pl.say true) ++ [Pl.say false]).map Pl.d) = (List.replicate 16 (Pl.say true)).map Pl.d ++ [(Pl.say false).d] := by rw [List.map_append]; rfl
  rw [← el] at dl
  have R5 := pl_toss (K := K) (k := 1) (ps := List.replicate 16 (.say true) ++ [.say false]) hr5 (.tup hc1 dl) (by rw [List.length_append, List.length_replicate]; decide) (fun x hx => by
    rcases List.mem_append.mp hx with h | h
    · rw [(List.mem_replicate.mp h).2]; exact ⟨.say true, lay_say true⟩
    · rw [List.mem_singleton.mp h]; exact ⟨.say false, lay_say false⟩)
  refine ⟨three3, fun l2 hl2 => ?_⟩
  have k16 := same_new hl2 (.lst [.ref r3, .ref r4, .ref r5])
  have kA := k15.trans k16
  have kB := k12.trans (m6.trans (k13.trans (k14.trans (m7.trans kA))))
  have kC := k10.trans (m5.trans (k11.trans kB))
  have kD := k8.trans (k9.trans kC)
  refine ⟨l, l2, _, _, rfl, rfl, kD _ _ hl1', upd_same, (by show 3 + 3 ≤ sizeLine; decide), fun l3 hl3 => ?_⟩
  have kE := same_new hl3 (.lst ([.ref r0, .ref r1, .ref r2] ++ [.ref r3, .ref r4, .ref r5]))
  have R0 := R0.same (kD.trans kE)
  have R1 := R1.same (kD.trans kE)
  have R2 := R2.same (kD.trans kE)
  have R3 := R3.same (kC.trans kE)
  have R4 := R4.same (kB.trans kE)
  have R5 := R5.same (k16.trans kE)
  have all_ := ky.trans (k17.trans (kD.trans kE))
  obtain ⟨v, p, ev, pv9, bad⟩ := pick6 (way := way) (R0.mono (by decide)) (fun names hn => by
      show (decide (("zz" : Str) ∈ names) && _) = false
      rw [decide_eq_false hn]; rfl) (R1.mono (by decide)) (fun names hn => by
      show (decide (nm ∈ names) && (decide ((0 : Int) ≤ -1) && _)) = false
      rw [decide_eq_false (by decide : ¬ (0 : Int) ≤ -1), Bool.false_and, Bool.and_false]) (R2.mono (by decide)) (fun names hn => by
      show (decide (nm ∈ names) && (decide ((0 : Int) ≤ 0) && decide ((ps.map (·.1)).Nodup))) = false
      rw [decide_eq_false hnd, Bool.and_false, Bool.and_false]) (R3.mono (by decide)) (fun names hn => rfl) (R4.mono (by decide)) (fun names hn => rfl) (R5.mono (by decide)) (fun names hn => rfl)
  exact ⟨_, rfl, _, rfl, _, _, rfl, rfl, (by show (0 : Int) < 6; decide), l3, _, _, _, rfl, rfl, SqL.of upd_same, ev, q v p _ all_ pv9 bad⟩
def spWide (K : PySem.W.Frag) : Sp := fun vs H Q _ => ∃ (v : V) (p : Pl) (k0 : Nat) (cell : Int) (nm : Str), vs = [v, .str nm, .int cell] ∧ PlAt K H v p k0 ∧ 1 ≤ k0 ∧ GoodN nm ∧
  ∀ (v' : V) (p' : Pl) (H' : Hp), Same H H' → PlAt K H' v' p' (k0 + 3) → Wrap nm p p' → Q v' H'
theorem rng_nodup (n : Nat) : ((List.range n).map fun i : Nat => Int.ofNat i).Nodup := by
  induction n with
  | zero => exact List.nodup_nil
  | succ n ih =>
    rw [List.range_succ, List.map_append]
    refine nodup_more.mpr ⟨ih, fun h => ?_⟩
    obtain ⟨i, hi, e⟩ := List.mem_map.mp h
    have := List.mem_range.mp hi
    have e' : (i : Int) = (n : Int) := e
    omega
theorem ok_wide (T : Txt K mg) : FnOk P w K mg base CX0 1 T.a_law_wide T.fd_law_wide ["player", "name", "cell"] (spWide K) := by
  refine T.F_law_wide.ok sc_law_wide (fun vs H Q E h => ?_) (fun cdv A outer s H vs Q E hr h => ?_)
  · obtain ⟨v, p, k0, c, nm, rfl, _⟩ := h
    rfl
  obtain ⟨v, p, k0, cell, nm, rfl, pv0, hk0, gn, q⟩ := h
  refine ⟨_, (pss_cons (ps_if (pt_cmpR op_eq (pe_op op_mod (pe_callTy call_int1 (by rfl) T.z_int (by decide +kernel) (pa_cons (pv 2) pa_nil)) pe_int) pe_int (nomark _))
      (pss_cons (ps_set (i := 3) sc_law_wide.nd rfl (Or.inl rfl) (pe_op op_mod (pe_op op_fdivW (pe_callTy call_int1 (by rfl) T.z_int (by decide +kernel) (pa_cons (pv 2) pa_nil)) pe_int) pe_int))
    (pss_one (ps_ret (pe_tup (pa_cons pe_str (pa_cons (pe_op op_catA (pe_op op_catA (pe_op op_repA (pe_tup (pa_cons (pe_tup (pa_cons pe_str (pa_cons pe_bl pa_nil))) pa_nil)) (pv 3)) (pe_tup (pa_cons (pv 0) pa_nil))) (pe_op op_repA (pe_tup (pa_cons (pe_tup (pa_cons pe_str (pa_cons pe_bl pa_nil))) pa_nil)) (pe_op op_sub pe_int (pv 3)))) pa_nil))))))
      pss_nil)
    (pss_cons (ps_set (i := 3) sc_law_wide.nd rfl (Or.inl rfl) (pe_op op_mod (pe_op op_fdivW (pe_callTy call_int1 (by rfl) T.z_int (by decide +kernel) (pa_cons (pv 2) pa_nil)) pe_int) pe_int))
    (pss_cons (ps_setLc (i := 4) (own := [("answer", 5)]) (g := gName 5) (tt := tYes) rfl sc_law_wide.nd rfl rfl (sw_true rfl rfl rfl (by decide +kernel)) (pi_range1 (by rfl) T.z_range (pa_cons pe_int pa_nil)) (blkOk_by (own := [("answer", 5)]) (N := ["player", "name", "cell", "at", "parts", "answer"]) (sc := defScope s_law_wide) (by decide +kernel)) (fun _ _ _ _ _ => pg_name (i := 5) sc_law_wide.nd rfl (Or.inl rfl)) (fun _ _ _ _ _ => pts_nil) (fun _ _ _ _ _ => (pe_tup (pa_cons (pv 5) (pa_cons (pe_tup (pa_cons pe_str (pa_cons (pe_cmpR op_eq (pe_op op_mod (pv 5) pe_int) pe_int (nomark _)) pa_nil))) pa_nil)))))
    (pss_cons (ps_asg (pe_tup (pa_cons (pv 3) (pa_cons (pv 0) pa_nil))) (pg_sub (pv 4) (pv 3) set_list))
    (pss_one (ps_ret (pe_tup (pa_cons pe_str (pa_cons (pv 1) (pa_cons (pe_op op_mod (pe_op op_fdivW (pe_callTy call_int1 (by rfl) T.z_int (by decide +kernel) (pa_cons (pv 2) pa_nil)) pe_int) pe_int) (pa_cons (pe_callTy call_tuple_of (by rfl) T.z_tuple (by decide +kernel) (pa_cons (pv 4) pa_nil)) pa_nil))))))))))), ?_⟩
  have one1 : (1 : Nat) ≤ sizeLine := by decide
  have two2 : (2 : Nat) ≤ sizeLine := by decide
  have four4 : (4 : Nat) ≤ sizeLine := by decide
  refine ⟨_, rfl, .inl ⟨_, rfl, _, _, rfl, rfl, (by show (0 : Int) < 2; decide), rfl, _, rfl, ite2 (fun _ => ?_) (fun _ => ?_)⟩⟩
  · refine ⟨_, rfl, .inl ⟨_, rfl, _, _, rfl, rfl, ⟨by decide, by decide⟩, _, _, rfl, rfl, (by show (0 : Int) < 16; decide), ?_⟩⟩
    obtain ⟨n, en⟩ : ∃ n : Nat, (n : Int) = cell / 2 % 16 := ⟨(cell / 2 % 16).toNat, by have := Int.emod_nonneg (cell / 2) (by decide : (16 : Int) ≠ 0); omega⟩
    have hn : n ≤ 15 := by
      have := Int.emod_lt_of_pos (cell / 2) (by decide : (0 : Int) < 16)
      omega
    dsimp only
    rw [← en]
    refine ⟨two2, fun y hy => ⟨one1, fun o1 ho1 => ?_⟩⟩
    have k1 := same_new hy (.tup [.str "say", .bl true])
    have Y := pl_say (K := K) hy true
    have k2 := same_new ho1 (.tup [.ref y])
    refine ⟨_, rfl, o1, n, _, rfl, rfl, SqT.of upd_same, (fun z => nomatch z), by omega, by omega, (by show 1 ≤ 1000; decide), fun q1 H1 m1 h1 => ?_⟩
    have h1' : SqT K H1 q1 (List.replicate n (V.ref y)) := by
      have e : ((n : Int)).toNat = n := by omega
      rw [e, flat_rep] at h1
      exact h1
    refine ⟨_, rfl, one1, fun o2 ho2 => ?_⟩
    have k3 := same_new ho2 (.tup [v])
    refine catA_of (sqT_mono k3 h1') (SqT.of upd_same) (sm1000 (by rw [List.length_replicate]; show n + 1 ≤ 1000; omega)) fun c1 H2 m2 hc1 => ?_
    refine ⟨two2, fun z hz => ⟨one1, fun o3 ho3 => ?_⟩⟩
    have k4 := same_new hz (.tup [.str "say", .bl false])
    have Z := pl_say (K := K) hz false
    have k5 := same_new ho3 (.tup [.ref z])
    refine ⟨_, rfl, _, _, rfl, rfl, o3, _, _, rfl, rfl, SqT.of upd_same, (fun z => nomatch z), (by show (0 : Int) ≤ 15 - (n : Int); omega), (by show 15 - (n : Int) ≤ 1000; omega), (by show 1 ≤ 1000; decide), fun q2 H3 m3 h3 => ?_⟩
    have h3' : SqT K H3 q2 (List.replicate (15 - n) (V.ref z)) := by
      have e : (15 - (n : Int)).toNat = 15 - n := by omega
      have h9 : SqT K H3 q2 (List.replicate (15 - (n : Int)).toNat [V.ref z]).flatten := h3
      rw [e, flat_rep] at h9
      exact h9
    have k25 := k4.trans (k5.trans m3)
    refine catA_of (sqT_mono k25 hc1) h3' (sm1000 (by rw [List.length_append, List.length_replicate, List.length_replicate]; show n + 1 + (15 - n) ≤ 1000; omega)) fun c2 H4 m4 hc2 => ⟨two2, fun a ha => ?_⟩
    have kAll := k1.trans (k2.trans (m1.trans (k3.trans (m2.trans (k25.trans m4)))))
    have d1 := dps_rep (Y.same (k2.trans (m1.trans (k3.trans (m2.trans (k25.trans m4)))))).d n
    have d2 := dps_rep (Z.same (k5.trans (m3.trans m4))).d (15 - n)
    have dl := DpAll.app (DpAll.app d1 (.cons (pv0.same kAll).d .nil)) d2
    have el : ((List.replicate n (Pl.say true) ++ [p] ++ List.replicate (15 - n) (Pl.say false)).map Pl.d) = (List.replicate n (Pl.say true)).map Pl.d ++ [p.d] ++ (List.replicate (15 - n) (Pl.say false)).map Pl.d := by rw [List.map_append, List.map_append]; rfl
    rw [← el] at dl
    have wr := wrap_toss (nm := nm) (p := p) (l1 := List.replicate n (.say true)) (l2 := List.replicate (15 - n) (.say false)) (fun x hx => ⟨true, (List.mem_replicate.mp hx).2⟩) (fun x hx => ⟨false, (List.mem_replicate.mp hx).2⟩) (by rw [List.length_replicate, List.length_replicate]; omega)
    have pt := pl_toss (K := K) (k := k0) ha (.tup hc2 dl) (by rw [List.length_append, List.length_append, List.length_replicate, List.length_replicate]; show n + 1 + (15 - n) ≤ 1000; omega) (fun x hx => by
      rcases wr.rest x hx with rfl | ⟨b, rfl⟩
      · exact ⟨pv0.s, pv0.l⟩
      · exact ⟨.say b, (lay_say b).mono (by omega)⟩)
    exact q _ _ _ (kAll.trans (same_new ha _)) (pt.mono (by omega)) wr
  · refine ⟨_, rfl, .inl ⟨_, rfl, _, _, rfl, rfl, ⟨by decide, by decide⟩, _, _, rfl, rfl, (by show (0 : Int) < 30; decide), ?_⟩⟩
    obtain ⟨n, en⟩ : ∃ n : Nat, (n : Int) = cell / 2 % 30 := ⟨(cell / 2 % 30).toNat, by have := Int.emod_nonneg (cell / 2) (by decide : (30 : Int) ≠ 0); omega⟩
    have hn : n < 30 := by
      have := Int.emod_lt_of_pos (cell / 2) (by decide : (0 : Int) < 30)
      omega
    dsimp only
    rw [← en]
    refine ⟨_, rfl, by decide, by decide, fun D hDn => ?_⟩
    refine lc_range (lo := 0) (n := 30) (fun j H' => ∃ (us : List V) (ps : List (Int × Pl)), Acc K H H' D us (ps.map partD) ∧ ps.map (·.1) = ((List.range j).map fun i : Nat => Int.ofNat i) ∧ ps.length = j ∧ Ends ps) ⟨[], [], Acc.start hDn, rfl, rfl, fun q hq => nomatch hq⟩ ?_ ?_
    · rintro j H1 hj ⟨us, ps, ac, hf, hl, he⟩
      refine ⟨rfl, _, rfl, _, rfl, _, _, rfl, rfl, (by show (0 : Int) < 3; decide), rfl, two2, fun t1 h1 => ⟨two2, fun t2 h2 => ?_⟩⟩
      have pl := pl_say (K := K) h1 (decide (V.int ((0 + (j : Int)) % 3) = V.int 0))
      have n1 := same_new h1 (.tup [.str "say", .bl (decide (V.int ((0 + (j : Int)) % 3) = V.int 0))])
      have n2 := same_new h2 (.tup [.int (0 + (j : Int)), .ref t1])
      have ac' := ((ac.grow n1).grow n2).add (pl_part (n := 0 + (j : Int)) h2 pl.d) (partD_nol _)
      refine ⟨us, ((ac.grow n1).grow n2).l, ?_, us ++ [.ref t2], ps ++ [(0 + (j : Int), .say _)], by rw [List.map_append]; exact ac', ?_, by rw [List.length_append, hl]; rfl, fun x hx => ?_⟩
      · have := ac.len
        rw [List.length_map] at this
        exact sl1000 (by omega)
      · rw [List.map_append, hf, List.range_succ, List.map_append]
        show _ ++ [0 + (j : Int)] = _ ++ [(j : Int)]
        rw [Int.zero_add]
      · rcases List.mem_append.mp hx with h | h
        · exact he x h
        · rw [List.mem_singleton.mp h]
          exact ⟨_, rfl⟩
    rintro H1 ⟨us, ps, ac, hf, hl, he⟩
    have ul : us.length = 30 := by rw [ac.len, List.length_map, hl]
    refine ⟨_, rfl, _, rfl, two2, fun t9 h9 => ?_⟩
    have k9 := same_new h9 (.tup [.int (n : Int), v])
    have ix : ixN us.length (n : Int) = some n := by
      unfold ixN
      rw [if_pos (by omega), if_pos (by omega)]
      rfl
    have acg := ac.grow k9
    have du := pl_part (K := K) (n := (n : Int)) h9 (dp_mono ac.s _ _ pv0.d)
    refine ⟨_, rfl, _, rfl, D, us, _, n, rfl, rfl, acg.l, ix, ?_⟩
    have tp9 : Tups (upd H1 t9 (.tup [.int (n : Int), v])) (upd (upd H1 t9 (.tup [.int (n : Int), v])) D (.lst (us.set n (.ref t9)))) := Tups.lst acg.l
    have m9 : Same H (upd (upd H1 t9 (.tup [.int (n : Int), v])) D (.lst (us.set n (.ref t9)))) := fun b o e => by
      have : b ≠ D := fun z => by
        rw [z, hDn] at e
        cases e
      rw [upd_ne this]
      exact k9 _ _ (ac.s _ _ e)
    have dset : DpAll K (upd (upd H1 t9 (.tup [.int (n : Int), v])) D (.lst (us.set n (.ref t9)))) (us.set n (.ref t9)) ((ps.map partD).set n (partD ((n : Int), p))) := dps_set n (dp_tupsAll tp9 _ _ acg.n acg.d) (dp_tups tp9 _ _ (partD_nol _) du)
    have es : (ps.map partD).set n (partD ((n : Int), p)) = (ps.set n ((n : Int), p)).map partD := by rw [List.map_set]
    rw [es] at dset
    refine ⟨_, rfl, _, rfl, .inl ⟨_, rfl, _, _, rfl, rfl, ⟨by decide, by decide⟩, _, _, rfl, rfl, (by show (0 : Int) < 9; decide), _, rfl, D, _, rfl, .inl ⟨SqL.of upd_same, fun tp htp => ⟨four4, fun ax hax => ?_⟩⟩⟩⟩
    have kt := same_new htp (.tup (us.set n (.ref t9)))
    have dt : Dp K _ (.ref tp) (.tuple ((ps.set n ((n : Int), p)).map partD)) := .tup (SqT.of (upd_same (a := tp) (o := .tup (us.set n (.ref t9))))) (dp_monoAll kt _ _ dset)
    have fa : (ps.map (·.1))[n]? = some (n : Int) := by rw [hf, List.getElem?_map, List.getElem?_range hn]; rfl
    have wr := wrap_ask (nm := nm) (p := p) (n := cell / 100 % 9) (parts := ps) (i := n) (a := (n : Int)) (Int.emod_nonneg _ (by decide)) (by omega) he (by rw [hf]; exact rng_nodup _) fa
    have pt := pl_ask (K := K) (k := k0) (n := cell / 100 % 9) hax dt gn.1 gn.2 (by rw [List.length_set]; omega) (fun x hx => by
      rcases wr.rest x.2 (List.mem_map.mpr ⟨x, hx, rfl⟩) with e | ⟨b, e⟩
      · rw [e]; exact ⟨pv0.s, pv0.l⟩
      · rw [e]; exact ⟨.say b, (lay_say b).mono (by omega)⟩)
    exact q _ _ _ (m9.trans (kt.trans (same_new hax _))) pt wr
end
end Toy
set_option Elab.async false
set_option linter.all false
set_option maxRecDepth 100000
set_option maxHeartbeats 4000000
namespace Toy
open PySem L2 Gm
open Mine (ite_no ite_yes same_make op_repA)
theorem chk_more {names : List Str} : ∀ (k : Nat) (p : Pl), chk names k p = true → chk names (k + 1) p = true
  | 0, .say b, _ => chk_say _ _ _
  | 0, .ask _ _ _, h => nomatch h
  | 0, .toss _, h => nomatch h
  | k + 1, p, h => by
    rw [chk_succ] at h ⊢
    rw [Bool.and_eq_true] at h
    rw [h.1, Bool.true_and, List.all_eq_true]
    exact fun q hq => chk_more k q (List.all_eq_true.mp h.2 q hq)
theorem chk_le {names : List Str} {k j : Nat} {p : Pl} (h : chk names k p = true) : chk names (k + j) p = true := by
  induction j with
  | zero => exact h
  | succ j ih => exact chk_more _ _ ih
theorem pr_inv {K : PySem.W.Frag} {H : Hp} {v : V} {p : Pr} (h : Dp K H v p.d) : ∃ (a : Addr) (rest : List V), v = .ref a ∧ SqT K H a (.str p.name :: .int p.size :: .int p.ans :: rest) := by
  obtain ⟨a, xs, rfl, hs, dx⟩ := dp_inv h
  obtain ⟨u1, r1, rfl, d1, e1⟩ := dps_cons dx
  obtain ⟨u2, r2, rfl, d2, e2⟩ := dps_cons e1
  obtain ⟨u3, r3, rfl, d3, e3⟩ := dps_cons e2
  rw [dp_s d1, dp_i d2, dp_i d3] at hs
  exact ⟨a, r3, rfl, hs⟩
theorem game_inv {K : PySem.W.Frag} {H : Hp} {v : V} {g : Ga} (h : Dp K H v g.d) (ok : GaOk g) : ∃ (a pa t0 : Addr) (x y z : V) (xs rest : List V), v = .ref a ∧ SqT K H a [x, y, z, .ref pa] ∧ SqT K H pa xs ∧ PrcAt K H xs (g.procs.map (·.name)) ∧ HeadsAt K H xs (g.procs.map (·.name)) ∧
    xs[0]? = some (.ref t0) ∧ SqT K H t0 (.str "p" :: rest) ∧ ("p" : Str) ∈ g.procs.map (·.name) ∧ ("zz" : Str) ∉ g.procs.map (·.name) ∧ xs.length ≤ 2 := by
  obtain ⟨a, x, y, z, u, rfl, hs, _, _, _, d4⟩ := four_inv h
  obtain ⟨pa, xs, rfl, hpa, dp⟩ := dp_inv d4
  have lx : xs.length = (g.procs.map (·.name)).length := by rw [DpAll.len dp, List.length_map, List.length_map]
  have names : g.procs.map (·.name) = ([("p" : Str)] : List Str) ∨ g.procs.map (·.name) = ([("p" : Str), "r"] : List Str) := ok.procs
  have each : ∀ (i : Nat) (n : Str), (g.procs.map (·.name))[i]? = some n → ∃ (b : Addr) (sz an : Int) (rest : List V), xs[i]? = some (V.ref b) ∧ SqT K H b (.str n :: .int sz :: .int an :: rest) ∧ 0 < sz ∧ sz ≤ 64 ∧ 1 ≤ an ∧ an ≤ 9 := by
    intro i n e
    rw [List.getElem?_map] at e
    cases ep : g.procs[i]? with
    | none => rw [ep] at e; cases e
    | some p =>
      rw [ep] at e
      cases e
      obtain ⟨v, ev, dv⟩ := DpAll.get dp (show (g.procs.map Pr.d)[i]? = some p.d by rw [List.getElem?_map, ep]; rfl)
      obtain ⟨b, rest, rfl, hb⟩ := pr_inv dv
      have po := ok.proc p (List.mem_of_getElem? ep)
      exact ⟨b, p.size, p.ans, rest, ev, hb, by have := po.size; omega, by have := po.size; omega, by have := po.ans; omega, by have := po.ans; omega⟩
  have good : ∀ n ∈ g.procs.map (·.name), GoodN n := by
    intro n hn
    rcases names with e | e <;> rw [e] at hn
    · rw [List.mem_singleton.mp hn]
      exact ⟨by decide +kernel, by decide +kernel⟩
    · rcases List.mem_cons.mp hn with h | h
      · rw [h]; exact ⟨by decide +kernel, by decide +kernel⟩
      · rw [List.mem_singleton.mp h]; exact ⟨by decide +kernel, by decide +kernel⟩
  have zero : (g.procs.map (·.name))[0]? = some ("p" : Str) := by rcases names with e | e <;> rw [e] <;> rfl
  obtain ⟨t0, sz, an, rest, e0, h0, _⟩ := each 0 "p" zero
  refine ⟨a, pa, t0, x, y, z, xs, _, rfl, hs, hpa, ⟨lx, ?_, good, each⟩, ⟨lx, fun i n e => let ⟨b, sz, an, rest, x1, x2, _⟩ := each i n e; ⟨b, _, x1, x2⟩⟩, e0, h0, List.mem_of_getElem? zero, ?_⟩
  · rcases names with e | e <;> rw [e] <;> simp
  · refine ⟨?_, ?_⟩
    · rcases names with e | e <;> rw [e] <;> decide +kernel
    · rw [lx]
      rcases names with e | e <;> rw [e] <;> decide +kernel
def spLaw (K : PySem.W.Frag) : Sp := fun vs H Q _ => ∃ (a : Addr) (ns : List Int), vs = [.ref a] ∧ SqL K H a (ns.map V.int) ∧ ns.length ≤ 63 ∧ ∀ H', Q (.bl true) H'
section
variable {P : Program} {w : World} {K : PySem.W.Frag} {mg : Str → Option Value} {base : Heap}
theorem ok_law (T : Txt K mg) : FnOk P w K mg base CX0 60 T.a_law T.fd_law ["script"] (spLaw K) := by
  have G_law_cell : FnOk P w K mg base CX0 1 T.a_law_cell T.fd_law_cell ["script", "k"] (spCell K) := ok_cell T
  have G_law_game : FnOk P w K mg base CX0 5 T.a_law_game T.fd_law_game ["script", "at"] (spGame K) := ok_game T
  have G_law_made : FnOk P w K mg base CX0 3 T.a_law_made T.fd_law_made ["game"] (spMade K T.C_Game) := ok_made T
  have G_law_player : FnOk P w K mg base CX0 4 T.a_law_player T.fd_law_player ["cell", "procs", "deep"] (spPlayer K 2) := ok_player T 2
  have G_law_refused : FnOk P w K mg base CX0 15 T.a_law_refused T.fd_law_refused ["made", "player", "whole_v"] (spRefused K T.C_Game) := ok_refused T
  have G_law_below : FnOk P w K mg base CX0 2 T.a_law_below T.fd_law_below ["player", "links", "name", "beside", "cell"] (spBelow K) := ok_pbelow T
  have G_law_faulty : FnOk P w K mg base CX0 2 T.a_law_faulty T.fd_law_faulty ["way", "name"] (spFaulty K) := ok_faulty T
  have G_law_wide : FnOk P w K mg base CX0 1 T.a_law_wide T.fd_law_wide ["player", "name", "cell"] (spWide K) := ok_wide T
  have G_check_player : FnOk P w K mg base (L2.CX P w) 12 T.a_check_player T.fd_check_player ["game", "player"] (spCheck K T.C_Game T.C_BadPlayer) := ok_check T
  refine T.F_law.ok sc_law (fun vs H Q E h => ?_) (fun cdv A outer s H vs Q E hr h => ?_)
  · obtain ⟨a, ns, rfl, _⟩ := h
    rfl
  obtain ⟨sa, ns, rfl, hS, hlen, q⟩ := h
  refine ⟨_, (pss_cons (ps_set (i := 1) sc_law.nd rfl (Or.inl rfl) (pe_call G_law_game (hr.mono (by decide)) rfl T.g_law_game T.k_law_game T.b_law_game .nil pass0 (pa_cons (pv 0) (pa_cons pe_int pa_nil))))
    (pss_cons (ps_set (i := 2) sc_law.nd rfl (Or.inl rfl) (pe_call G_law_made (hr.mono (by decide)) rfl T.g_law_made T.k_law_made T.b_law_made .nil pass0 (pa_cons (pv 1) pa_nil)))
    (pss_cons (ps_set (i := 3) sc_law.nd rfl (Or.inl rfl) (pe_ix ix_tup (pe_ix ix_tup (pe_ix ix_tup (pv 1) pe_int (fun _ _ => rfl)) pe_int (fun _ _ => rfl)) pe_int (fun _ _ => rfl)))
    (pss_cons (ps_set (i := 4) sc_law.nd rfl (Or.inl rfl) (pe_call G_law_player (hr.mono (by decide)) rfl T.g_law_player T.k_law_player T.b_law_player .nil pass0 (pa_cons (pe_callB call_abs (by rfl) T.z_abs (by decide +kernel) (pa_cons (pe_call G_law_cell (hr.mono (by decide)) rfl T.g_law_cell T.k_law_cell T.b_law_cell .nil pass0 (pa_cons (pv 0) (pa_cons pe_int pa_nil))) pa_nil)) (pa_cons (pe_ix ix_tup (pv 1) pe_int (fun _ _ => rfl)) (pa_cons pe_int pa_nil)))))
    (pss_cons (ps_expr (pe_call G_check_player (hr.mono (by decide)) rfl T.g_check_player T.k_check_player T.b_check_player .nil passL (pa_cons (pv 2) (pa_cons (pv 4) pa_nil))))
    (pss_cons (ps_set (i := 5) sc_law.nd rfl (Or.inl rfl) (pe_callB call_abs (by rfl) T.z_abs (by decide +kernel) (pa_cons (pe_call G_law_cell (hr.mono (by decide)) rfl T.g_law_cell T.k_law_cell T.b_law_cell .nil pass0 (pa_cons (pv 0) (pa_cons pe_int pa_nil))) pa_nil)))
    (pss_cons (ps_set (i := 6) sc_law.nd rfl (Or.inl rfl) (pe_callB call_abs (by rfl) T.z_abs (by decide +kernel) (pa_cons (pe_call G_law_cell (hr.mono (by decide)) rfl T.g_law_cell T.k_law_cell T.b_law_cell .nil pass0 (pa_cons (pv 0) (pa_cons pe_int pa_nil))) pa_nil)))
    (pss_cons (ps_set (i := 7) sc_law.nd rfl (Or.inl rfl) (pe_tup (pa_cons pe_str (pa_cons pe_bl pa_nil))))
    (pss_cons (ps_set (i := 8) sc_law.nd rfl (Or.inl rfl) (pe_tup (pa_cons pe_str (pa_cons pe_int (pa_cons pe_int (pa_cons (pe_tup (pa_cons pe_str pa_nil)) (pa_cons (pe_tup (pa_cons (pe_tup (pa_cons pe_str (pa_cons pe_str (pa_cons pe_int pa_nil)))) (pa_cons (pe_tup (pa_cons pe_str (pa_cons pe_str (pa_cons pe_int pa_nil)))) (pa_cons (pe_tup (pa_cons pe_str (pa_cons pe_str (pa_cons pe_int pa_nil)))) pa_nil)))) (pa_cons (pe_tup (pa_cons pe_str (pa_cons pe_int pa_nil))) pa_nil))))))))
    (pss_cons (ps_set (i := 9) sc_law.nd rfl (Or.inl rfl) (pe_call G_law_made (hr.mono (by decide)) rfl T.g_law_made T.k_law_made T.b_law_made .nil pass0 (pa_cons (pe_op op_catA (pe_slice (slTB K rfl) (pv 1) po_none (po_some pe_int)) (pe_tup (pa_cons (pe_op op_catA (pe_ix ix_tup (pv 1) pe_int (fun _ _ => rfl)) (pe_tup (pa_cons (pv 8) pa_nil))) pa_nil))) pa_nil)))
    (pss_cons (ps_if (pt_not (pt_val (pe_call G_law_refused (hr.mono (by decide)) rfl T.g_law_refused T.k_law_refused T.b_law_refused .nil pass0 (pa_cons (pv 9) (pa_cons (pe_tup (pa_cons pe_str (pa_cons pe_str (pa_cons pe_int (pa_cons (pe_tup (pa_cons (pe_tup (pa_cons pe_int (pa_cons (pe_call G_law_faulty (hr.mono (by decide)) rfl T.g_law_faulty T.k_law_faulty T.b_law_faulty .nil pass0 (pa_cons (pv 5) (pa_cons (pv 3) pa_nil))) pa_nil))) pa_nil)) pa_nil))))) (pa_cons pe_bl pa_nil))))))
      (pss_one (ps_ret pe_bl))
      pss_nil)
    (pss_cons (ps_expr (pe_call G_check_player (hr.mono (by decide)) rfl T.g_check_player T.k_check_player T.b_check_player .nil passL (pa_cons (pv 2) (pa_cons (pe_call G_law_below (hr.mono (by decide)) rfl T.g_law_below T.k_law_below T.b_law_below .nil pass0 (pa_cons (pv 7) (pa_cons pe_int (pa_cons (pv 3) (pa_cons (pv 7) (pa_cons (pv 6) pa_nil)))))) pa_nil))))
    (pss_cons (ps_set (i := 10) sc_law.nd rfl (Or.inl rfl) (pe_call G_law_below (hr.mono (by decide)) rfl T.g_law_below T.k_law_below T.b_law_below .nil pass0 (pa_cons (pv 7) (pa_cons pe_int (pa_cons (pv 3) (pa_cons (pv 7) (pa_cons (pv 6) pa_nil)))))))
    (pss_cons (ps_set (i := 11) sc_law.nd rfl (Or.inl rfl) (pe_tup (pa_cons pe_str (pa_cons (pv 3) (pa_cons pe_int (pa_cons (pe_tup pa_nil) pa_nil))))))
    (pss_cons (ps_expr (pe_call G_check_player (hr.mono (by decide)) rfl T.g_check_player T.k_check_player T.b_check_player .nil passL (pa_cons (pv 2) (pa_cons (pe_call G_law_below (hr.mono (by decide)) rfl T.g_law_below T.k_law_below T.b_law_below .nil pass0 (pa_cons (pv 11) (pa_cons pe_int (pa_cons (pv 3) (pa_cons (pv 7) (pa_cons (pv 6) pa_nil)))))) pa_nil))))
    (pss_cons (ps_if (pt_not (pt_val (pe_call G_law_refused (hr.mono (by decide)) rfl T.g_law_refused T.k_law_refused T.b_law_refused .nil pass0 (pa_cons (pv 2) (pa_cons (pe_call G_law_below (hr.mono (by decide)) rfl T.g_law_below T.k_law_below T.b_law_below .nil pass0 (pa_cons (pv 11) (pa_cons pe_int (pa_cons (pv 3) (pa_cons (pv 7) (pa_cons (pv 6) pa_nil)))))) (pa_cons pe_bl pa_nil))))))
      (pss_one (ps_ret pe_bl))
      pss_nil)
    (pss_cons (ps_set (i := 12) sc_law.nd rfl (Or.inl rfl) (pe_call G_law_wide (hr.mono (by decide)) rfl T.g_law_wide T.k_law_wide T.b_law_wide .nil pass0 (pa_cons (pe_call G_law_faulty (hr.mono (by decide)) rfl T.g_law_faulty T.k_law_faulty T.b_law_faulty .nil pass0 (pa_cons (pv 5) (pa_cons (pv 3) pa_nil))) (pa_cons (pv 3) (pa_cons (pe_callB call_abs (by rfl) T.z_abs (by decide +kernel) (pa_cons (pe_call G_law_cell (hr.mono (by decide)) rfl T.g_law_cell T.k_law_cell T.b_law_cell .nil pass0 (pa_cons (pv 0) (pa_cons pe_int pa_nil))) pa_nil)) pa_nil)))))
    (pss_cons (ps_if (PW.pt (pw_or (pt_not (pt_val (pe_call G_law_refused (hr.mono (by decide)) rfl T.g_law_refused T.k_law_refused T.b_law_refused .nil pass0 (pa_cons (pv 2) (pa_cons (pv 12) (pa_cons pe_bl pa_nil)))))) (pw_or1 (pt_not (pt_val (pe_call G_law_refused (hr.mono (by decide)) rfl T.g_law_refused T.k_law_refused T.b_law_refused .nil pass0 (pa_cons (pv 2) (pa_cons (pv 12) (pa_cons pe_bl pa_nil)))))))))
      (pss_one (ps_ret pe_bl))
      pss_nil)
    (pss_cons (ps_expr (pe_call G_check_player (hr.mono (by decide)) rfl T.g_check_player T.k_check_player T.b_check_player .nil passL (pa_cons (pv 2) (pa_cons (pe_call G_law_wide (hr.mono (by decide)) rfl T.g_law_wide T.k_law_wide T.b_law_wide .nil pass0 (pa_cons (pv 7) (pa_cons (pv 3) (pa_cons (pe_callB call_abs (by rfl) T.z_abs (by decide +kernel) (pa_cons (pe_call G_law_cell (hr.mono (by decide)) rfl T.g_law_cell T.k_law_cell T.b_law_cell .nil pass0 (pa_cons (pv 0) (pa_cons pe_int pa_nil))) pa_nil)) pa_nil)))) pa_nil))))
    (pss_cons (ps_set (i := 13) sc_law.nd rfl (Or.inl rfl) (pe_call G_law_below (hr.mono (by decide)) rfl T.g_law_below T.k_law_below T.b_law_below .nil pass0 (pa_cons (pe_call G_law_faulty (hr.mono (by decide)) rfl T.g_law_faulty T.k_law_faulty T.b_law_faulty .nil pass0 (pa_cons (pv 5) (pa_cons (pv 3) pa_nil))) (pa_cons (pe_op op_mod (pe_op op_fdivW (pv 5) pe_int) pe_int) (pa_cons (pv 3) (pa_cons (pv 7) (pa_cons (pv 6) pa_nil)))))))
    (pss_cons (ps_if (pt_cmpR op_eq (pe_op op_mod (pe_op op_fdivW (pv 5) pe_int) pe_int) pe_int (nomark _))
      (pss_one (ps_set (i := 13) sc_law.nd rfl (Or.inl rfl) (pe_tup (pa_cons pe_str (pa_cons (pe_tup (pa_cons (pv 4) (pa_cons (pe_call G_law_faulty (hr.mono (by decide)) rfl T.g_law_faulty T.k_law_faulty T.b_law_faulty .nil pass0 (pa_cons (pv 5) (pa_cons (pv 3) pa_nil))) pa_nil))) pa_nil)))))
      pss_nil)
    (pss_cons (ps_for PassesOwn.never rfl (pi_tup (pe_tup (pa_cons (pv 10) (pa_cons (pv 13) pa_nil)))) (pg_name (i := 14) sc_law.nd rfl (Or.inl rfl))
      (pss_one (ps_if (PW.pt (pw_or (pt_not (pt_val (pe_call G_law_refused (hr.mono (by decide)) rfl T.g_law_refused T.k_law_refused T.b_law_refused .nil pass0 (pa_cons (pv 2) (pa_cons (pv 14) (pa_cons pe_bl pa_nil)))))) (pw_or1 (pt_not (pt_val (pe_call G_law_refused (hr.mono (by decide)) rfl T.g_law_refused T.k_law_refused T.b_law_refused .nil pass0 (pa_cons (pv 2) (pa_cons (pv 14) (pa_cons pe_bl pa_nil)))))))))
      (pss_one (ps_ret pe_bl))
      pss_nil)))
    (pss_one (ps_ret pe_bl)))))))))))))))))))))))), ?_⟩
  have zero0 : (0 : Nat) ≤ sizeLine := by decide
  have one1 : (1 : Nat) ≤ sizeLine := by decide
  have two2 : (2 : Nat) ≤ sizeLine := by decide
  have three3 : (3 : Nat) ≤ sizeLine := by decide
  have four4 : (4 : Nat) ≤ sizeLine := by decide
  have six6 : (6 : Nat) ≤ sizeLine := by decide
  refine ⟨_, rfl, sa, ns, 0, rfl, hS, by decide, fun gv g H1 m1 dg okg => ?_⟩
  have hS := m1.seq hS
  obtain ⟨ga, pa, t0, x, y, z, xs, rest0, rfl, ha, hpa, PC, HH, e0, ht0, hp, hzz, xl⟩ := game_inv dg okg
  have gn : GoodN "p" := PC.2.2.1 _ hp
  generalize g.procs.map (·.name) = names at *
  refine ⟨_, rfl, ga, pa, x, y, z, xs, names, rfl, ha, hpa, HH, fun gm1 H2 m2 G => ?_⟩
  have hS := (m2).seq hS
  have ha := sqT_mono (m2) ha
  have hpa := sqT_mono (m2) hpa
  have ht0 := sqT_mono (m2) ht0
  have PC := PC.same (m2)
  have HH := HH.same (m2)
  refine ⟨_, rfl, ga, _, _, _, rfl, rfl, ha, rfl, pa, _, _, _, rfl, rfl, hpa, atI_nat (j := 0) e0, t0, _, 0, V.str "p", rfl, rfl, ht0, atI_nat (j := 0) rfl, ?_⟩
  refine ⟨_, rfl, sa, ns, 4, rfl, hS, by decide, _, rfl, _, rfl, ga, _, _, _, rfl, rfl, ha, rfl, _, pa, xs, names, rfl, hpa, PC, fun pv0 p H3 m3 PP hc => ?_⟩
  have hS := (m3).seq hS
  have ha := sqT_mono (m3) ha
  have hpa := sqT_mono (m3) hpa
  have HH := HH.same (m3)
  have G := G.same (m3)
  have hc8 : chk names 8 p = true := chk_le (k := 2) (j := 6) hc
  refine ⟨_, rfl, _, rfl, gm1, pv0, names, p, rfl, G, PP.d, PP.s, PP.l.mono (by decide), fun _ H4 m4 => ?_, fun z => by rw [hc8] at z; exact Bool.noConfusion z⟩
  have hS := (m4).seq hS
  have ha := sqT_mono (m4) ha
  have hpa := sqT_mono (m4) hpa
  have HH := HH.same (m4)
  have G := G.same (m4)
  have PP := PP.same (m4)
  refine ⟨_, rfl, sa, ns, 5, rfl, hS, by decide, _, rfl, ?_⟩
  generalize (if ns.getD (5 : Int).toNat 0 < 0 then -ns.getD (5 : Int).toNat 0 else ns.getD (5 : Int).toNat 0) = way
  refine ⟨_, rfl, sa, ns, 6, rfl, hS, by decide, _, rfl, ?_⟩
  generalize (if ns.getD (6 : Int).toNat 0 < 0 then -ns.getD (6 : Int).toNat 0 else ns.getD (6 : Int).toNat 0) = cell
  refine ⟨two2, fun sm hsm => ?_⟩
  have S := pl_say (K := K) hsm false
  have k1 := same_new hsm (.tup [.str "say", .bl false])
  have hS := (k1).seq hS
  have ha := sqT_mono (k1) ha
  have hpa := sqT_mono (k1) hpa
  have HH := HH.same (k1)
  have G := G.same (k1)
  have PP := PP.same (k1)
  refine ⟨one1, fun w1 hw1 => ⟨three3, fun w2 hw2 => ⟨three3, fun w3 hw3 => ⟨three3, fun w4 hw4 => ⟨three3, fun w5 hw5 => ⟨two2, fun w6 hw6 => ⟨six6, fun w7 hw7 => ?_⟩⟩⟩⟩⟩⟩⟩
  have k7 := (same_new hw1 (.tup [.str "g"])).trans ((same_new hw2 (.tup [.str "draw", .str "g", .int 64])).trans ((same_new hw3 (.tup [.str "draw", .str "g", .int 64])).trans ((same_new hw4 (.tup [.str "draw", .str "g", .int 2])).trans ((same_new hw5 (.tup [.ref w2, .ref w3, .ref w4])).trans ((same_new hw6 (.tup [.str "number", .int 0])).trans (same_new hw7 (.tup [.str "wild", .int 1, .int 1, .ref w1, .ref w5, .ref w6])))))))
  have hS := (k7).seq hS
  have ha := sqT_mono (k7) ha
  have hpa := sqT_mono (k7) hpa
  have HH := HH.same (k7)
  have G := G.same (k7)
  have PP := PP.same (k7)
  have S := S.same (k7)
  refine ⟨_, rfl, _, rfl, ga, _, rfl, ha, fun sp H5 m5 hsp => ?_⟩
  have ew : SqT K H5 w7 [.str "wild", .int 1, .int 1, .ref w1, .ref w5, .ref w6] := sqT_mono m5 (SqT.of upd_same)
  have hS := (m5).seq hS
  have ha := sqT_mono (m5) ha
  have hpa := sqT_mono (m5) hpa
  have HH := HH.same (m5)
  have G := G.same (m5)
  have PP := PP.same (m5)
  have S := S.same (m5)
  have hsp : SqT K H5 sp [x, y, z] := hsp
  refine ⟨_, rfl, ga, _, _, _, rfl, rfl, ha, rfl, _, rfl, one1, fun w8 hw8 => ?_⟩
  have k8 := same_new hw8 (.tup [.ref w7])
  refine catA_of (sqT_mono k8 hpa) (SqT.of upd_same) (sm1000 (by show xs.length + 1 ≤ 1000; omega)) fun pa2 H6 m6 hpa2 => ⟨one1, fun w9 hw9 => ?_⟩
  have k9 := same_new hw9 (.tup [.ref pa2])
  refine catA_of (sqT_mono (k8.trans (m6.trans k9)) hsp) (SqT.of upd_same) (by show 3 + 1 ≤ sizeLine; decide) fun ga2 H7 m7 hga2 => ?_
  have m57 := k8.trans (m6.trans (k9.trans m7))
  have ew := sqT_mono m57 ew
  have hpa2 : SqT K H7 pa2 (xs ++ [V.ref w7]) := sqT_mono (k9.trans m7) hpa2
  have hS := (m57).seq hS
  have ha := sqT_mono (m57) ha
  have hpa := sqT_mono (m57) hpa
  have HH := HH.same (m57)
  have G := G.same (m57)
  have PP := PP.same (m57)
  have S := S.same (m57)
  have HH2 : HeadsAt K H7 (xs ++ [.ref w7]) (names ++ [("wild" : Str)]) := by
    refine ⟨by rw [List.length_append, List.length_append, HH.1]; rfl, fun i n e => ?_⟩
    by_cases hi : i < names.length
    · rw [List.getElem?_append_left hi] at e
      obtain ⟨b, r, x1, x2⟩ := HH.2 i n e
      exact ⟨b, r, by rw [List.getElem?_append_left (by rw [HH.1]; exact hi)]; exact x1, x2⟩
    · have ei : i = names.length := by
        have := (List.getElem?_eq_some_iff.mp e).1
        rw [List.length_append] at this
        have : [("wild" : Str)].length = 1 := rfl
        omega
      subst ei
      rw [List.getElem?_append_right (Nat.le_refl _), Nat.sub_self] at e
      cases e
      refine ⟨w7, _, ?_, ew⟩
      rw [← HH.1, List.getElem?_append_right (Nat.le_refl _), Nat.sub_self]
      rfl
  refine ⟨ga2, pa2, x, y, z, xs ++ [.ref w7], names ++ [("wild" : Str)], rfl, hga2, hpa2, HH2, fun gm2 H8 m8 G2 => ?_⟩
  have hS := (m8).seq hS
  have G := G.same (m8)
  have S := S.same (m8)
  have PP := PP.same (m8)
  -- great refuses
  have hzz2 : ("zz" : Str) ∉ names ++ [("wild" : Str)] := by
    rw [List.mem_append]
    rintro (h | h)
    · exact hzz h
    · exact absurd (List.mem_singleton.mp h) (by decide +kernel)
  refine ⟨_, rfl, _, rfl, _, rfl, way, _, rfl, gn, fun fv fp H9 m9 FP bad => ⟨two2, fun t1 h1 => ⟨one1, fun t2 h2 => ⟨four4, fun t3 h3 => ?_⟩⟩⟩⟩
  have dpt := pl_part (K := K) (n := 0) h1 FP.d
  have n1 := same_new h1 (.tup [.int 0, fv])
  have n2 := same_new h2 (.tup [.ref t1])
  have AW := pl_ask (K := K) (k := 6) (n := 0) (p := "wild") (parts := [(0, fp)]) h3 (dp_tup h2 (.cons dpt .nil)) (by decide +kernel) (by decide +kernel) (by show 1 ≤ 1000; decide) (fun x hx => by rw [List.mem_singleton.mp hx]; exact ⟨FP.s, FP.l⟩)
  have n3 := same_new h3 (.tup [.str "ask", .str "wild", .int 0, .ref t2])
  have m := m9.trans (n1.trans (n2.trans n3))
  have hS := (m).seq hS
  have G := G.same (m)
  have S := S.same (m)
  have PP := PP.same (m)
  have G2 := G2.same (m)
  refine ⟨gm2, .ref t3, true, _, names ++ [("wild" : Str)], rfl, G2, AW.mono (by decide), ?_, fun H10 m10 => ⟨true, rfl, iteF ?_⟩⟩
  · show (_ && (_ && (_ && (chk (names ++ [("wild" : Str)]) 7 fp && true)))) = false
    rw [bad_head (bad _ hzz2)]
    simp
  have hS := (m10).seq hS
  have G := G.same (m10)
  have S := S.same (m10)
  have PP := PP.same (m10)
  -- eight fit
  refine ⟨_, rfl, _, rfl, _, rfl, _, rfl, _, rfl, .ref sm, .ref sm, .say false, 1, 8, cell, _, rfl, S, S, Nat.le_refl _, by decide, by decide, gn, fun v1 p1 H11 m11 P1 c1 => ?_⟩
  have hS := (m11).seq hS
  have G := G.same (m11)
  have S := S.same (m11)
  have PP := PP.same (m11)
  have hc1 : chk names 8 p1 = true := ((c1 names hp).1 0).trans (chk_say _ _ _)
  refine ⟨gm1, v1, names, p1, rfl, G, P1.d, P1.s, P1.l.mono (by decide), fun _ H12 m12 => ?_, fun z => by rw [hc1] at z; exact Bool.noConfusion z⟩
  have hS := (m12).seq hS
  have G := G.same (m12)
  have S := S.same (m12)
  have PP := PP.same (m12)
  -- nine don't
  refine ⟨_, rfl, _, rfl, _, rfl, _, rfl, .ref sm, .ref sm, .say false, 1, 9, cell, _, rfl, S, S, Nat.le_refl _, by decide, by decide, gn, fun dv dp H13 m13 DP c2 => ?_⟩
  have hc2 : chk names 8 dp = false := (c2 names hp).2 8 (by decide)
  have hS := (m13).seq hS
  have G := G.same (m13)
  have S := S.same (m13)
  have PP := PP.same (m13)
  refine ⟨_, rfl, zero0, fun e1 he1 => ⟨four4, fun br hbr => ?_⟩⟩
  have n1 := same_new he1 (.tup [])
  have B := pl_ask (K := K) (k := 1) (n := 0) (p := "p") (parts := []) hbr (dp_tup he1 .nil) gn.1 gn.2 (by decide) (fun x hx => nomatch hx)
  have n2 := same_new hbr (.tup [.str "ask", .str "p", .int 0, .ref e1])
  have m := n1.trans n2
  have hS := (m).seq hS
  have G := G.same (m)
  have S := S.same (m)
  have PP := PP.same (m)
  have DP := DP.same (m)
  refine ⟨_, rfl, _, rfl, _, rfl, _, rfl, _, rfl, .ref br, .ref sm, _, 4, 7, cell, _, rfl, B, S, by decide, by decide, by decide, gn, fun v1 p3 H14 m14 P3 c3 => ?_⟩
  have hS := (m14).seq hS
  have G := G.same (m14)
  have S := S.same (m14)
  have PP := PP.same (m14)
  have DP := DP.same (m14)
  have B := B.same (m14)
  have hc3 : chk names 8 p3 = true := by
    refine ((c3 names hp).1 1).trans ?_
    show (decide (("p" : Str) ∈ names) && (decide ((0 : Int) ≤ 0) && (decide ([] : List Int).Nodup && true))) = true
    rw [decide_eq_true hp]
    simp
  refine ⟨gm1, v1, names, p3, rfl, G, P3.d, P3.s, P3.l.mono (by decide), fun _ H15 m15 => ?_, fun z => by rw [hc3] at z; exact Bool.noConfusion z⟩
  have hS := (m15).seq hS
  have G := G.same (m15)
  have S := S.same (m15)
  have PP := PP.same (m15)
  have DP := DP.same (m15)
  have B := B.same (m15)
  refine ⟨_, rfl, _, rfl, _, rfl, _, rfl, _, rfl, .ref br, .ref sm, _, 4, 8, cell, _, rfl, B, S, by decide, by decide, by decide, gn, fun v1 p4 H16 m16 P4 c4 => ?_⟩
  have hS := (m16).seq hS
  have G := G.same (m16)
  have S := S.same (m16)
  have PP := PP.same (m16)
  have DP := DP.same (m16)
  have B := B.same (m16)
  refine ⟨gm1, v1, false, p4, names, rfl, G, P4.mono (by decide), ((c4 names hp).1 0).trans rfl, fun H17 m17 => ⟨true, rfl, iteF ?_⟩⟩
  have hS := (m17).seq hS
  have G := G.same (m17)
  have S := S.same (m17)
  have PP := PP.same (m17)
  have DP := DP.same (m17)
  have B := B.same (m17)
  -- wide
  refine ⟨_, rfl, _, rfl, way, _, rfl, gn, fun fv2 fp2 H18 m18 FP2 bad2 => ?_⟩
  have hS := (m18).seq hS
  have G := G.same (m18)
  have S := S.same (m18)
  have PP := PP.same (m18)
  have DP := DP.same (m18)
  refine ⟨_, rfl, _, rfl, sa, ns, 5, rfl, hS, by decide, _, rfl, fv2, fp2, 6, _, _, rfl, FP2, by decide, gn, fun wv wp H19 m19 WP wr => ?_⟩
  have hS := (m19).seq hS
  have G := G.same (m19)
  have S := S.same (m19)
  have PP := PP.same (m19)
  have DP := DP.same (m19)
  have hcw : chk names 8 wp = false := (wrap_chk wr hp 7).trans (bad_head (bad2 _ hzz) 7)
  refine ⟨_, rfl, _, rfl, gm1, wv, false, wp, names, rfl, G, WP.mono (by decide), hcw, fun H20 m20 => ⟨true, rfl, iteF ?_⟩⟩
  have hS := (m20).seq hS
  have G := G.same (m20)
  have S := S.same (m20)
  have PP := PP.same (m20)
  have DP := DP.same (m20)
  have WP := WP.same (m20)
  refine ⟨_, rfl, _, rfl, gm1, wv, true, wp, names, rfl, G, WP.mono (by decide), hcw, fun H21 m21 => ⟨true, rfl, iteF ?_⟩⟩
  have hS := (m21).seq hS
  have G := G.same (m21)
  have S := S.same (m21)
  have PP := PP.same (m21)
  have DP := DP.same (m21)
  refine ⟨_, rfl, _, rfl, _, rfl, _, rfl, sa, ns, 5, rfl, hS, by decide, _, rfl, .ref sm, .say false, 1, _, _, rfl, S, Nat.le_refl _, gn, fun wv2 wp2 H22 m22 WP2 wr2 => ?_⟩
  have hS := (m22).seq hS
  have G := G.same (m22)
  have S := S.same (m22)
  have PP := PP.same (m22)
  have DP := DP.same (m22)
  have hcw2 : chk names 8 wp2 = true := (wrap_chk wr2 hp 7).trans (chk_say _ _ _)
  refine ⟨gm1, wv2, names, wp2, rfl, G, WP2.d, WP2.s, WP2.l.mono (by decide), fun _ H23 m23 => ?_, fun z => by rw [hcw2] at z; exact Bool.noConfusion z⟩
  have hS := (m23).seq hS
  have G := G.same (m23)
  have S := S.same (m23)
  have PP := PP.same (m23)
  have DP := DP.same (m23)
  -- a faulty one below others
  refine ⟨_, rfl, _, rfl, way, _, rfl, gn, fun fv3 fp3 H24 m24 FP3 bad3 => ?_⟩
  have hS := (m24).seq hS
  have G := G.same (m24)
  have S := S.same (m24)
  have PP := PP.same (m24)
  have DP := DP.same (m24)
  have w0 := Int.emod_nonneg (way / 200) (by decide : (8 : Int) ≠ 0)
  have w1 := Int.emod_lt_of_pos (way / 200) (by decide : (0 : Int) < 8)
  refine ⟨_, rfl, _, _, rfl, rfl, ⟨by decide, by decide⟩, _, _, rfl, rfl, (by show (0 : Int) < 8; decide), _, rfl, _, rfl, _, rfl, fv3, .ref sm, fp3, 6, way / 200 % 8, cell, _, rfl, FP3, S, by decide, w0, by omega, gn, fun xv xp H25 m25 XP c5 => ?_⟩
  have hS := (m25).seq hS
  have G := G.same (m25)
  have S := S.same (m25)
  have PP := PP.same (m25)
  have DP := DP.same (m25)
  have hcx : chk names 8 xp = false := by
    have h := (c5 names hp).1 (8 - (way / 200 % 8).toNat)
    rw [bad_head (bad3 _ hzz)] at h
    have e : (way / 200 % 8).toNat + (8 - (way / 200 % 8).toNat) = 8 := by omega
    rwa [e] at h
  have XP := XP.mono (show 6 + 3 * (way / 200 % 8).toNat ≤ 60 by omega)
  refine ⟨_, rfl, _, _, rfl, rfl, ⟨by decide, by decide⟩, _, _, rfl, rfl, (by show (0 : Int) < 4; decide), rfl, _, rfl, ite2 (fun _ => ?_) (fun _ => ?_)⟩
  · refine ⟨_, rfl, _, rfl, _, rfl, way, _, rfl, gn, fun fv4 fp4 H26 m26 FP4 bad4 => ⟨two2, fun t5 h5 => ⟨two2, fun t6 h6 => ?_⟩⟩⟩
    have hS := (m26).seq hS
    have G := G.same (m26)
    have S := S.same (m26)
    have PP := PP.same (m26)
    have DP := DP.same (m26)
    have n5 := same_new h5 (.tup [pv0, fv4])
    have dts := dp_tup (K := K) h5 (.cons PP.d (.cons FP4.d .nil))
    have TT := pl_toss (K := K) (k := 7) (ps := [p, fp4]) h6 dts (by show 2 ≤ 1000; decide) (fun x hx => by
      rcases List.mem_cons.mp hx with h | h
      · rw [h]; exact ⟨PP.s, PP.l⟩
      · rw [List.mem_singleton.mp h]; exact ⟨FP4.s, FP4.l.mono (by decide)⟩)
    have n6 := same_new h6 (.tup [.str "toss", .ref t5])
    have hct : chk names 8 (.toss [p, fp4]) = false := by
      show (_ && (chk names 7 p && (chk names 7 fp4 && true))) = false
      rw [bad_head (bad4 _ hzz)]
      simp
    have m := n5.trans n6
    have hS := (m).seq hS
    have G := G.same (m)
    have S := S.same (m)
    have PP := PP.same (m)
    have DP := DP.same (m)
    generalize hX : upd (upd H26 t5 (.tup [pv0, fv4])) t6 (.tup [.str "toss", .ref t5]) = HX at *
    refine ⟨_, rfl, _, rfl, two2, fun tt htt => ?_⟩
    have n9 := same_new htt (.tup [dv, .ref t6])
    refine ⟨tt, rfl, ⟨_, SqT.of upd_same⟩, for_tup (K := K) (a := tt) (xs := [dv, .ref t6]) (fun i σ H' => Same (upd HX tt (.tup [dv, .ref t6])) H' ∧ ∃ y13 y14 : Option V, σ = [some (.ref sa), some (.ref ga), some (.ref gm1), some (.str "p"), some pv0, some (.int way), some (.int cell), some (.ref sm), some (.ref w7), some (.ref gm2), some dv, some (.ref br), some wv, y13, y14]) ⟨Same.refl _, _, _, rfl⟩ (fun i σ H' _ h => SqT.of (h.1 _ _ upd_same)) ?_ ?_⟩
    · rintro i u σ H30 hu ⟨m30, y13, y14, rfl⟩
      have it : ∃ (p9 : Pl), PlAt K HX u p9 60 ∧ chk names 8 p9 = false := by
        match i, hu with
        | 0, hu => cases hu; exact ⟨dp, DP.mono (by decide), hc2⟩
        | 1, hu => cases hu; exact ⟨_, TT.mono (by decide), hct⟩
      obtain ⟨p9, U9, hc9⟩ := it
      have m39 := n9.trans m30
      refine ⟨_, rfl, _, rfl, gm1, u, false, p9, names, rfl, G.same m39, U9.same m39, hc9, fun H31 m31 => ⟨true, rfl, iteF ?_⟩⟩
      refine ⟨_, rfl, _, rfl, gm1, u, true, p9, names, rfl, G.same (m39.trans m31), U9.same (m39.trans m31), hc9, fun H32 m32 => ⟨true, rfl, iteF ?_⟩⟩
      exact ⟨m30.trans (m31.trans m32), _, _, rfl⟩
    · rintro σ H30 ⟨m30, y13, y14, rfl⟩
      exact q _
  · skip
    refine ⟨_, rfl, _, rfl, two2, fun tt htt => ?_⟩
    have n9 := same_new htt (.tup [dv, xv])
    refine ⟨tt, rfl, ⟨_, SqT.of upd_same⟩, for_tup (K := K) (a := tt) (xs := [dv, xv]) (fun i σ H' => Same (upd H25 tt (.tup [dv, xv])) H' ∧ ∃ y13 y14 : Option V, σ = [some (.ref sa), some (.ref ga), some (.ref gm1), some (.str "p"), some pv0, some (.int way), some (.int cell), some (.ref sm), some (.ref w7), some (.ref gm2), some dv, some (.ref br), some wv, y13, y14]) ⟨Same.refl _, _, _, rfl⟩ (fun i σ H' _ h => SqT.of (h.1 _ _ upd_same)) ?_ ?_⟩
    · rintro i u σ H30 hu ⟨m30, y13, y14, rfl⟩
      have it : ∃ (p9 : Pl), PlAt K H25 u p9 60 ∧ chk names 8 p9 = false := by
        match i, hu with
        | 0, hu => cases hu; exact ⟨dp, DP.mono (by decide), hc2⟩
        | 1, hu => cases hu; exact ⟨_, XP, hcx⟩
      obtain ⟨p9, U9, hc9⟩ := it
      have m39 := n9.trans m30
      refine ⟨_, rfl, _, rfl, gm1, u, false, p9, names, rfl, G.same m39, U9.same m39, hc9, fun H31 m31 => ⟨true, rfl, iteF ?_⟩⟩
      refine ⟨_, rfl, _, rfl, gm1, u, true, p9, names, rfl, G.same (m39.trans m31), U9.same (m39.trans m31), hc9, fun H32 m32 => ⟨true, rfl, iteF ?_⟩⟩
      exact ⟨m30.trans (m31.trans m32), _, _, rfl⟩
    · rintro σ H30 ⟨m30, y13, y14, rfl⟩
      exact q _
end
end Toy
set_option Elab.async false
set_option linter.all false
set_option maxRecDepth 100000
set_option maxHeartbeats 4000000
/-! A head by one kernel run: what is looked at behind the top is a Bool over a part of the heap, the defs, the tables. -/
namespace HdF
open PySem PySem.Spec PyProof.Rows L2 He
abbrev Fr := PySem.W.Frag
/-! ### objects, written out: each piece is looked at, then handed on -/
section
variable {α : Type}
def wNat (n : Nat) (k : Nat → α) : α := HandSHeadRun.frNat n k
theorem wNat_eq (n : Nat) (k : Nat → α) : wNat n k = k n := HandSHeadRun.frNat_eq n k
def wList {β : Type} (f : β → (β → α) → α) : List β → (List β → α) → α
  | [], k => k []
  | x :: r, k => f x fun x => wList f r fun r => k (x :: r)
theorem wList_eq {β : Type} {f : β → (β → α) → α} (hf : ∀ x k, f x k = k x) : ∀ (l : List β) (k : List β → α), wList f l k = k l
  | [], _ => rfl
  | x :: r, k => by
    show f x (fun x => wList f r fun r => k (x :: r)) = _
    rw [hf, wList_eq hf r]
def wV (v : Value) (k : Value → α) : α := match v with
  | .none => k .none
  | .ellipsis => k .ellipsis
  | .notImplemented => k .notImplemented
  | .bool b => (match b with
    | true => k (.bool true)
    | false => k (.bool false))
  | .int i t => (match i with
    | .ofNat n => wNat n fun n => k (.int (.ofNat n) t)
    | .negSucc n => wNat n fun n => k (.int (.negSucc n) t))
  | .float b t => k (.float b t)
  | .str s t => (match s with
    | ⟨⟨l⟩⟩ => wList wNat l fun l => k (.str ⟨⟨l⟩⟩ t))
  | .bytes b t => k (.bytes b t)
  | .type n => k (.type n)
  | .builtin n => k (.builtin n)
  | .ref a => wNat a fun a => k (.ref a)
theorem wV_eq (v : Value) (k : Value → α) : wV v k = k v := by
  cases v with
  | bool b => cases b <;> rfl
  | int i t =>
    cases i with
    | ofNat n => exact wNat_eq n fun n => k (.int (.ofNat n) t)
    | negSucc n => exact wNat_eq n fun n => k (.int (.negSucc n) t)
  | str s t =>
    obtain ⟨⟨l⟩⟩ := s
    exact wList_eq wNat_eq l fun l => k (.str ⟨⟨l⟩⟩ t)
  | ref a => exact wNat_eq a fun a => k (.ref a)
  | _ => rfl
def wE (e : DictEntry) (k : DictEntry → α) : α := match e with
  | ⟨h, x, v⟩ => wV x fun x => wV v fun v => k ⟨h, x, v⟩
theorem wE_eq (e : DictEntry) (k : DictEntry → α) : wE e k = k e := by
  obtain ⟨h, x, v⟩ := e
  show wV x (fun x => wV v fun v => k ⟨h, x, v⟩) = _
  rw [wV_eq, wV_eq]
def wO {β : Type} (f : β → (β → α) → α) (o : Option β) (k : Option β → α) : α := match o with
  | some x => f x fun x => k (some x)
  | none => k none
theorem wO_eq {β : Type} {f : β → (β → α) → α} (hf : ∀ x k, f x k = k x) (o : Option β) (k : Option β → α) : wO f o k = k o := by
  cases o with
  | none => rfl
  | some x => exact hf x fun x => k (some x)
def wC (p : Str × Addr) (k : Str × Addr → α) : α := match p with
  | (x, a) => wNat a fun a => k (x, a)
theorem wC_eq (p : Str × Addr) (k : Str × Addr → α) : wC p k = k p := by
  obtain ⟨x, a⟩ := p
  exact wNat_eq a fun a => k (x, a)
def wA {β : Type} (f : β → (β → α) → α) (o : Array β) (k : Array β → α) : α := match o with
  | ⟨l⟩ => wList f l fun l => k ⟨l⟩
theorem wA_eq {β : Type} {f : β → (β → α) → α} (hf : ∀ x k, f x k = k x) (o : Array β) (k : Array β → α) : wA f o k = k o := by
  obtain ⟨l⟩ := o
  exact wList_eq hf l fun l => k ⟨l⟩
def wF (f : FuncData) (k : FuncData → α) : α := match f with
  | ⟨n1, n2, n3, n4, n5, n6, n7, n8, n9, n10, n11, n12, n13, n14, n15⟩ => wNat n6 fun n6 => wList wC n7 fun n7 => wV n8 fun n8 => wV n13 fun n13 => wNat n15 fun n15 => k ⟨n1, n2, n3, n4, n5, n6, n7, n8, n9, n10, n11, n12, n13, n14, n15⟩
theorem wF_eq (f : FuncData) (k : FuncData → α) : wF f k = k f := by
  obtain ⟨n1, n2, n3, n4, n5, n6, n7, n8, n9, n10, n11, n12, n13, n14, n15⟩ := f
  unfold wF
  dsimp only
  rw [wNat_eq, wList_eq wC_eq, wV_eq, wV_eq, wNat_eq]
def wK (c : ClassData) (k : ClassData → α) : α := match c with
  | ⟨n1, n2, n3, n4, n5, n6, n7, n8, n9, n10, n11⟩ => wList wV n3 fun n3 => wNat n4 fun n4 => k ⟨n1, n2, n3, n4, n5, n6, n7, n8, n9, n10, n11⟩
theorem wK_eq (c : ClassData) (k : ClassData → α) : wK c k = k c := by
  obtain ⟨n1, n2, n3, n4, n5, n6, n7, n8, n9, n10, n11⟩ := c
  unfold wK
  dsimp only
  rw [wList_eq wV_eq, wNat_eq]
def wD (d : Data) (k : Data → α) : α := match d with
  | .plain => k .plain
  | .prim v => wV v fun v => k (.prim v)
  | .seq its n => wA wV its fun its => k (.seq its n)
  | .dict es n => wA wE es fun es => k (.dict es n)
  | .set es n t => k (.set es n t)
  | .bytearray b n => k (.bytearray b n)
  | .cell v => wO wV v fun v => k (.cell v)
  | .func f => wF f fun f => k (.func f)
  | .cls c => wK c fun c => k (.cls c)
  | .fields vs => wA wV vs fun vs => k (.fields vs)
  | .freed => k .freed
theorem wD_eq (d : Data) (k : Data → α) : wD d k = k d := by
  cases d with
  | prim v => exact wV_eq v fun v => k (.prim v)
  | seq its n => exact wA_eq wV_eq its fun its => k (.seq its n)
  | dict es n => exact wA_eq wE_eq es fun es => k (.dict es n)
  | cell v => exact wO_eq wV_eq v fun v => k (.cell v)
  | func f => exact wF_eq f fun f => k (.func f)
  | cls c => exact wK_eq c fun c => k (.cls c)
  | fields vs => exact wA_eq wV_eq vs fun vs => k (.fields vs)
  | _ => rfl
def wObj (o : Obj) (k : Obj → α) : α := match o with
  | ⟨c, d, dt, sl⟩ => wV c fun c => wO wNat d fun d => wD dt fun dt => wA (wO wV) sl fun sl => k ⟨c, d, dt, sl⟩
theorem wObj_eq (o : Obj) (k : Obj → α) : wObj o k = k o := by
  obtain ⟨c, d, dt, sl⟩ := o
  unfold wObj
  dsimp only
  rw [wV_eq, wO_eq wNat_eq, wD_eq, wA_eq (wO_eq wV_eq)]
end
/-! ### the part of the heap -/
def refsF (o : Obj) : List Addr := match o.data with
  | .seq its _ => its.toList.flatMap refV
  | .dict es _ => es.toList.flatMap fun e => refV e.val
  | .func fd => refV fd.code ++ (refV fd.defaults ++ fd.closure.map (·.2))
  | .cls cd => cd.ns :: cd.mro.flatMap refV
  | _ => []
def hasA (a : Addr) : Fr → Bool
  | [] => false
  | (b, _) :: r => match Nat.beq b a with
    | true => true
    | false => hasA a r
section
variable {α : Type} (g : Addr → Option Obj)
def addC : List Addr → Fr → List Addr → (Fr → List Addr → α) → α
  | [], K, fr, k => k K fr
  | a :: r, K, fr, k => wNat a fun a => match hasA a K with
    | true => addC r K fr k
    | false => match g a with
      | some o => wObj o fun o => wList wNat (refsF o) fun rs => addC r ((a, o) :: K) (rs ++ fr) k
      | none => addC r K fr k
def levC : Nat → List Addr → Fr → (Fr → α) → α
  | 0, _, K, k => k K
  | n + 1, fr, K, k => addC g fr K [] fun K fr => levC n fr K k
def revC : Fr → Fr → (Fr → α) → α
  | [], acc, k => k acc
  | p :: r, acc, k => revC r (p :: acc) k
/-- what the module's names reach in n steps, and cStatics -/
def topC (n : Nat) (k : Fr → α) : α := levC g n [mainGlobals] [] fun K => addC g [cStatics] K [] fun K _ => revC K [] k
end
def Good (g : Addr → Option Obj) (K : Fr) : Prop := ∀ p ∈ K, g p.1 = some p.2
section
variable {g : Addr → Option Obj}
theorem addC_ok : ∀ (l : List Addr) (K : Fr) (fr : List Addr), ∃ K' fr', (Good g K → Good g K') ∧ ∀ (α : Type) (k : Fr → List Addr → α), addC g l K fr k = k K' fr'
  | [], K, fr => ⟨K, fr, id, fun _ _ => rfl⟩
  | a :: r, K, fr => by
    have e : ∀ (α : Type) (k : Fr → List Addr → α), addC g (a :: r) K fr k = match hasA a K with
      | true => addC g r K fr k
      | false => match g a with
        | some o => addC g r ((a, o) :: K) (refsF o ++ fr) k
        | none => addC g r K fr k := fun α k => by
      show wNat a _ = _
      rw [wNat_eq]
      cases hasA a K with
      | true => rfl
      | false =>
        cases g a with
        | none => rfl
        | some o =>
          show wObj o _ = _
          rw [wObj_eq, wList_eq wNat_eq]
    cases h1 : hasA a K with
    | true =>
      obtain ⟨K', fr', h, q⟩ := addC_ok r K fr
      exact ⟨K', fr', h, fun α k => by rw [e, h1]; exact q α k⟩
    | false =>
      cases h2 : g a with
      | none =>
        obtain ⟨K', fr', h, q⟩ := addC_ok r K fr
        exact ⟨K', fr', h, fun α k => by rw [e, h1, h2]; exact q α k⟩
      | some o =>
        obtain ⟨K', fr', h, q⟩ := addC_ok r ((a, o) :: K) (refsF o ++ fr)
        refine ⟨K', fr', fun z => h fun p hp => ?_, fun α k => by rw [e, h1, h2]; exact q α k⟩
        rcases List.mem_cons.mp hp with rfl | hp
        · exact h2
        · exact z p hp
theorem levC_ok : ∀ (n : Nat) (fr : List Addr) (K : Fr), ∃ K', (Good g K → Good g K') ∧ ∀ (α : Type) (k : Fr → α), levC g n fr K k = k K'
  | 0, fr, K => ⟨K, id, fun _ _ => rfl⟩
  | n + 1, fr, K => by
    obtain ⟨K1, fr1, h1, q1⟩ := addC_ok (g := g) fr K []
    obtain ⟨K2, h2, q2⟩ := levC_ok n fr1 K1
    exact ⟨K2, fun z => h2 (h1 z), fun α k => (q1 α _).trans (q2 α k)⟩
theorem revC_ok : ∀ (K acc : Fr), ∃ K', (Good g K → Good g acc → Good g K') ∧ ∀ (α : Type) (k : Fr → α), revC K acc k = k K'
  | [], acc => ⟨acc, fun _ z => z, fun _ _ => rfl⟩
  | p :: r, acc => by
    obtain ⟨K', h, q⟩ := revC_ok r (p :: acc)
    refine ⟨K', fun z1 z2 => h (fun x hx => z1 x (List.mem_cons_of_mem _ hx)) fun x hx => ?_, fun α k => q α k⟩
    rcases List.mem_cons.mp hx with rfl | hx
    · exact z1 _ (List.mem_cons_self ..)
    · exact z2 x hx
theorem topC_ok (n : Nat) : ∃ K, Good g K ∧ ∀ (α : Type) (k : Fr → α), topC g n k = k K := by
  obtain ⟨K1, h1, q1⟩ := levC_ok (g := g) n [mainGlobals] []
  obtain ⟨K2, fr2, h2, q2⟩ := addC_ok (g := g) [cStatics] K1 []
  obtain ⟨K3, h3, q3⟩ := revC_ok (g := g) K2 []
  exact ⟨K3, h3 (h2 (h1 fun p hp => nomatch hp)) fun p hp => (nomatch hp), fun α k => (q1 α _).trans ((q2 α _).trans (q3 α k))⟩
end
theorem lookup_mem' {a : Addr} {o : Obj} : ∀ {l : List (Addr × Obj)}, l.lookup a = some o → (a, o) ∈ l
  | [], h => by cases h
  | (b, u) :: r, h => by
    have h2 : (match a == b with | true => some u | false => r.lookup a) = some o := h
    cases q : (a == b) with
    | true =>
      rw [q] at h2
      have e : u = o := Option.some.inj h2
      rw [beq_iff_eq.mp q, e]
      exact List.mem_cons_self ..
    | false =>
      rw [q] at h2
      exact List.mem_cons_of_mem _ (lookup_mem' h2)
theorem good_in {h : Heap} {K : Fr} (z : Good h.get? K) : K.In h := fun a o e => z (a, o) (lookup_mem' e)
/-! ### defs -/
/-- a def: where it stands, names, parameters, body, scope, defaults, the class that its cell __class__ holds -/
structure DefF where
  at_ : Str × Option Str
  name : Str
  qual : Str
  params : Arguments
  body : List Stmt
  scope : Scope
  dfl : List Dv := []
  own : Option Str := none
abbrev FnV : Type := Option (Str × Str × Arguments × FuncBody × Scope × Addr × List Str × Addr)
def fnV (K : Fr) (p : Str × Option Str) : FnV := match K.lookup (fAd K p) with
  | some ⟨_, _, .func fd, _⟩ => some (fd.name, fd.qualname, fd.params, fd.body, fd.scope, fd.globals, fd.closure.map (·.1), fd.builtins)
  | _ => none
def DefF.clo (d : DefF) : List Str := match d.own with
  | none => []
  | some _ => ["__class__"]
def DefF.val (d : DefF) : FnV := some (d.name, d.qual, d.params, .stmts d.body, d.scope, mainGlobals, d.clo, builtinsNs)
def cellB (K : Fr) (file : Str) (C : Str) (fd : FuncData) : Bool := match fd.closure, fd.code with
  | [(_, cc)], .ref cd => (match K.lookup cc with
    | some ⟨_, _, .cell (some (.ref c)), _⟩ => decide (c = ga K C)
    | _ => false) && (match K.lookup cd with
    | some ⟨_, _, .fields vs, _⟩ => (match (vs[2]? : Option Value) with
      | some (.str s _) => decide (s = file)
      | _ => false)
    | _ => false)
  | _, _ => false
def DefF.ok (file : Str) (K : Fr) (d : DefF) : Bool := PySem.W.keepIn K (.ref (fAd K d.at_)) && (match K.lookup (fAd K d.at_) with
  | some ⟨_, _, .func fd, _⟩ => PySem.W.codeIn K fd.code d.qual && (dflB K fd.defaults (d.dfl.map (Dv.v K)) && (match d.own with
    | none => true
    | some C => cellB K file C fd))
  | _ => false)
theorem DefF.out {file : Str} {K : Fr} {d : DefF} (e : fnV K d.at_ = d.val) (c : d.ok file K = true) :
    ∃ oc od dV kV doc pm an cdv ct clo osl, K.lookup (fAd K d.at_) = some ⟨oc, od, .func (PySem.W.fnX d.name d.qual d.params d.body d.scope clo dV kV doc pm an cdv ct), osl⟩ ∧ clo.map (·.1) = d.clo ∧
      PySem.W.codeIn K cdv d.qual = true ∧ dflB K dV (d.dfl.map (Dv.v K)) = true ∧ (match d.own with
        | none => true
        | some C => cellB K file C (PySem.W.fnX d.name d.qual d.params d.body d.scope clo dV kV doc pm an cdv ct)) = true ∧ PySem.W.keepIn K (.ref (fAd K d.at_)) = true := by
  obtain ⟨kp, c2⟩ := ba c
  unfold fnV at e
  cases q : K.lookup (fAd K d.at_) with
  | none =>
    rw [q] at c2
    cases c2
  | some o =>
    obtain ⟨oc, od, dt, osl⟩ := o
    rw [q] at c2 e
    cases dt with
    | func fd =>
      obtain ⟨n1, n2, n3, n4, n5, n6, n7, n8, n9, n10, n11, n12, n13, n14, n15⟩ := fd
      have e2 : (some (n1, n2, n3, n4, n5, n6, n7.map (·.1), n15) : FnV) = some (d.name, d.qual, d.params, .stmts d.body, d.scope, mainGlobals, d.clo, builtinsNs) := e
      simp only [Option.some.injEq, Prod.mk.injEq] at e2
      obtain ⟨h1, h2, h3, h4, h5, h6, h7, h8⟩ := e2
      subst h1 h2 h3 h4 h5 h6 h8
      obtain ⟨k1, k2⟩ := ba c2
      obtain ⟨k3, k4⟩ := ba k2
      exact ⟨oc, od, n8, n9, n10, n11, n12, n13, n14, n7, osl, rfl, h7, k1, k3, k4, kp⟩
    | _ => cases c2
theorem dfl_nil {K : Fr} {dV : Value} (h : dflB K dV [] = true) : dV = .none := by
  cases dV with
  | none => rfl
  | _ => cases h
theorem dfl_cons {K : Fr} {dV : Value} {v : V} {vs : List V} (h : dflB K dV (v :: vs) = true) : ∃ T dc dd l n dsl, dV = .ref T ∧ K.lookup T = some ⟨dc, dd, .seq (List.toArray l) n, dsl⟩ ∧ Vals (v :: vs) l := by
  cases dV with
  | ref T =>
    have h1 : (match K.lookup T with
      | some ⟨_, _, .seq its _, _⟩ => relAll (v :: vs) its.toList
      | _ => false) = true := h
    cases q : K.lookup T with
    | none =>
      rw [q] at h1
      cases h1
    | some o =>
      obtain ⟨oc, od, dt, osl⟩ := o
      rw [q] at h1
      cases dt with
      | seq its n => exact ⟨T, oc, od, its.toList, n, osl, rfl, q.trans (by rw [Array.toArray_toList]), relAll_ok h1⟩
      | _ => cases h1
  | _ => cases h
theorem vals_cons {v : V} {vs : List V} {l : List Value} (h : Vals (v :: vs) l) : ∃ u r, l = u :: r ∧ RelV v u ∧ Vals vs r := by
  cases h with
  | cons a b => exact ⟨_, _, rfl, a, b⟩
theorem vals_nil {l : List Value} (h : Vals [] l) : l = [] := by
  cases h
  rfl
theorem vals_str {x : Str} {vs : List V} {l : List Value} (h : Vals (.str x :: vs) l) : ∃ t r, l = .str x t :: r ∧ Vals vs r := by
  obtain ⟨u, r, rfl, ⟨t, rfl⟩, z⟩ := vals_cons h
  exact ⟨t, r, rfl, z⟩
theorem vals_int {x : Int} {vs : List V} {l : List Value} (h : Vals (.int x :: vs) l) : ∃ t r, l = .int x t :: r ∧ Vals vs r := by
  obtain ⟨u, r, rfl, ⟨t, rfl⟩, z⟩ := vals_cons h
  exact ⟨t, r, rfl, z⟩
theorem vals_ref {x : Addr} {vs : List V} {l : List Value} (h : Vals (.ref x :: vs) l) : ∃ r, l = .ref x :: r ∧ Vals vs r := by
  obtain ⟨u, r, rfl, e, z⟩ := vals_cons h
  cases e
  exact ⟨r, rfl, z⟩
theorem vals_bl {x : Bool} {vs : List V} {l : List Value} (h : Vals (.bl x :: vs) l) : ∃ r, l = .bool x :: r ∧ Vals vs r := by
  obtain ⟨u, r, rfl, e, z⟩ := vals_cons h
  cases e
  exact ⟨r, rfl, z⟩
theorem vals_non {vs : List V} {l : List Value} (h : Vals (.non :: vs) l) : ∃ r, l = .none :: r ∧ Vals vs r := by
  obtain ⟨u, r, rfl, e, z⟩ := vals_cons h
  cases e
  exact ⟨r, rfl, z⟩
theorem cell_ok {K : Fr} {file C : Str} {fd : FuncData} (h : cellB K file C fd = true) (hn : fd.closure.map (·.1) = [("__class__" : Str)]) :
    ∃ cc cda ccl cdd ccs vs0 tf cl cld csl, fd.closure = [(("__class__" : Str), cc)] ∧ fd.code = .ref cda ∧ K.lookup cda = some ⟨ccl, cdd, .fields vs0, ccs⟩ ∧ vs0[2]? = some (.str file tf) ∧ K.lookup cc = some ⟨cl, cld, .cell (some (.ref (ga K C))), csl⟩ := by
  obtain ⟨n1, n2, n3, n4, n5, n6, clo, n8, n9, n10, n11, n12, cdv, n14, n15⟩ := fd
  match clo, cdv, h, hn with
  | [(x, cc)], .ref cd, h, hn =>
    have ex : x = "__class__" := (List.cons.inj hn).1
    subst ex
    obtain ⟨h1, h2⟩ := ba (show ((match K.lookup cc with
    | some ⟨_, _, .cell (some (.ref c)), _⟩ => decide (c = ga K C)
    | _ => false) && (match K.lookup cd with
    | some ⟨_, _, .fields vs, _⟩ => (match (vs[2]? : Option Value) with
      | some (.str s _) => decide (s = file)
      | _ => false)
    | _ => false)) = true from h)
    split at h1
    · rename_i o1 o2 c o3 e1
      split at h2
      · rename_i p1 p2 vs p3 e2
        split at h2
        · rename_i s t e3
          have ec := of_decide_eq_true h1
          have es := of_decide_eq_true h2
          subst ec es
          exact ⟨cc, cd, _, _, _, vs, t, _, _, _, rfl, rfl, e2, e3, e1⟩
        · cases h2
      · cases h2
    · cases h1
/-! ### own classes under ValueError -/
def vexB (K : Fr) (C : Addr) : Bool := match K.lookup C with
  | some ⟨.type c, _, .cls cd, sl⟩ => decide (c = "type") && (match cd.mro, sl.toList with
    | .ref c' :: bm, [_, _, _, _, some (.builtin n), _] => decide (c' = C) && (decide (n = "ValueError.__new__") && (!cd.hasDel && (cd.hasDict && PySem.HandSPX.refsVE bm)))
    | _, _ => false)
  | _ => false
theorem vex_ok {K : Fr} {C : Addr} (h : vexB K C = true) : ∃ nm q N bs bm sn sub ab col dd k0 k1 k2 k3 k5, K.lookup C = some (excClassObj nm q C N bs bm true sn sub ab col dd k0 k1 k2 k3 k5 "ValueError.__new__") ∧ PySem.HandSPX.refsVE bm = true := by
  unfold vexB at h
  split at h
  · rename_i c dd cd sl e
    obtain ⟨h0, h1⟩ := ba h
    have e0 := of_decide_eq_true h0
    subst e0
    obtain ⟨nm, bs, mro, ns, qn, hd, sn, sub, ab, col, del⟩ := cd
    obtain ⟨l⟩ := sl
    split at h1
    · rename_i c' bm k0 k1 k2 k3 n k5 hm hs
      obtain ⟨a1, h2⟩ := ba h1
      obtain ⟨a2, h3⟩ := ba h2
      obtain ⟨a3, h4⟩ := ba h3
      obtain ⟨a4, a5⟩ := ba h4
      have b1 := of_decide_eq_true a1
      have b2 := of_decide_eq_true a2
      have b3 : del = false := by
        cases del with
        | false => rfl
        | true => cases a3
      have b4 : hd = true := a4
      have b5 : mro = .ref c' :: bm := hm
      have b6 : l = _ := hs
      subst b1 b2 b3 b4 b5 b6
      exact ⟨nm, qn, ns, bs, bm, sn, sub, ab, col, dd, k0, k1, k2, k3, k5, e, a5⟩
    · cases h1
  · cases h
/-! ### constants, tables -/
def intB (K : Fr) (x : Str) (i : Int) : Bool := match PySem.W.nsIn K mainGlobals x with
  | some (some (.int j _)) => decide (j = i)
  | _ => false
theorem int_ok {K : Fr} {x : Str} {i : Int} (h : intB K x i = true) : ∃ t, PySem.W.nsIn K mainGlobals x = some (some (.int i t)) := by
  unfold intB at h
  split at h
  · rename_i j t e
    have ej := of_decide_eq_true h
    subst ej
    exact ⟨t, e⟩
  · cases h
def strB (K : Fr) (x z : Str) : Bool := match PySem.W.nsIn K mainGlobals x with
  | some (some (.str y _)) => decide (y = z)
  | _ => false
theorem str_ok {K : Fr} {x z : Str} (h : strB K x z = true) : ∃ t, PySem.W.nsIn K mainGlobals x = some (some (.str z t)) := by
  unfold strB at h
  split at h
  · rename_i j t e
    have ej := of_decide_eq_true h
    subst ej
    exact ⟨t, e⟩
  · cases h
/-- a tuple of these at a -/
def tupAt (K : Fr) (a : Addr) (vs : List Dv) : Bool := match K.lookup a with
  | some ⟨.type c, _, .seq its _, _⟩ => decide (c = "tuple") && relAll (vs.map (Dv.v K)) its.toList
  | _ => false
theorem tup_ok {K : Fr} {a : Addr} {vs : List Dv} (h : tupAt K a vs = true) : ∃ od l n sl, K.lookup a = some ⟨.type "tuple", od, .seq (List.toArray l) n, sl⟩ ∧ Vals (vs.map (Dv.v K)) l := by
  unfold tupAt at h
  split at h
  · rename_i c od its n sl e
    obtain ⟨h1, h2⟩ := ba h
    have e1 := of_decide_eq_true h1
    subst e1
    exact ⟨od, its.toList, n, sl, e.trans (by rw [Array.toArray_toList]), relAll_ok h2⟩
  · cases h
/-- the i-th value of the dict at a -/
def valAt (K : Fr) (a : Addr) (i : Nat) : Addr := match K.lookup a with
  | some ⟨_, _, .dict es _, _⟩ => (match es.toList[i]? with
    | some e => (match e.val with
      | .ref b => b
      | _ => 0)
    | none => 0)
  | _ => 0
/-- the values of the dict at a are objects -/
def refsB (K : Fr) (a : Addr) : Bool := match K.lookup a with
  | some ⟨_, _, .dict es _, _⟩ => es.toList.all fun e => match e.val with
    | .ref _ => true
    | _ => false
  | _ => false
theorem dic_cons {P : Params} {k : Str} {ks : List Str} {l : List DictEntry} (h : l.map He.keyOf = He.keysIn P (k :: ks)) (hr : (l.all fun e => match e.val with | .ref _ => true | _ => false) = true) :
    ∃ x t v r, l = ⟨x, .str k t, .ref v⟩ :: r ∧ x = PyData.keyHash P k ∧ r.map He.keyOf = He.keysIn P ks ∧ (r.all fun e => match e.val with | .ref _ => true | _ => false) = true := by
  match l, h, hr with
  | e :: r, h, hr =>
    have h1 : He.keyOf e :: r.map He.keyOf = some (k, PyData.keyHash P k) :: He.keysIn P ks := h
    injection h1 with h2 h3
    obtain ⟨r1, r2⟩ := ba (show ((match e.val with | .ref _ => true | _ => false) && r.all fun e => match e.val with | .ref _ => true | _ => false) = true from hr)
    obtain ⟨x, ky, vl⟩ := e
    unfold He.keyOf at h2
    split at h2
    · rename_i y t q
      have h4 := Option.some.inj h2
      obtain ⟨h5, h6⟩ := Prod.mk.inj h4
      have q' : ky = .str y t := q
      subst q' h5
      cases vl with
      | ref v => exact ⟨x, t, v, r, rfl, h6, h3, r2⟩
      | _ => cases r1
    · cases h2
theorem dic_nil {P : Params} {l : List DictEntry} (h : l.map He.keyOf = He.keysIn P []) : l = [] := by
  cases l with
  | nil => rfl
  | cons _ _ => cases h
theorem dic_ok {K : Fr} {P : Params} {a : Addr} {ks : List Str} (h : dicW K a = some (He.keysIn P ks)) (hr : refsB K a = true) :
    ∃ l n, K.lookup a = some ⟨.type "dict", none, .dict (List.toArray l) n, #[]⟩ ∧ (a == sysModules) = false ∧ l.map He.keyOf = He.keysIn P ks ∧ (l.all fun e => match e.val with | .ref _ => true | _ => false) = true := by
  unfold dicW at h
  split at h
  · rename_i c es n sl e
    split at h
    · rename_i z
      obtain ⟨z1, z2⟩ := ba z
      obtain ⟨z3, z4⟩ := ba z2
      have e1 := of_decide_eq_true z1
      have e2 := Array.isEmpty_iff.mp z3
      subst e1 e2
      have e3 : (a == sysModules) = false := by
        cases y : a == sysModules with
        | false => rfl
        | true =>
          rw [y] at z4
          cases z4
      unfold refsB at hr
      rw [e] at hr
      exact ⟨es.toList, n, e.trans (by rw [Array.toArray_toList]), e3, Option.some.inj h, hr⟩
    · cases h
  · cases h
/-! ### the Hook -/
abbrev Ex : Type := List (List (Fr → Bool))
abbrev AlF : Type := Bool × List FnV × List (Option (List (Option (Str × Int))))
def obsF (file : Str) (ex : Ex) (fn : List DefF) (ts : List Tab) (K : Fr) : AlF := ((ex.all fun l => l.all fun f => f K) && fn.all fun d => d.ok file K, fn.map fun d => fnV K d.at_, ts.map fun t => dicW K (t.1 K))
def valF (fn : List DefF) (ts : List Tab) (w : World) : AlF := (true, fn.map DefF.val, ts.map fun t => some (He.keysIn w.params t.2))
def Says (file : Str) (ex : Ex) (fn : List DefF) (ts : List Tab) (w : World) (K : Fr) : Prop := obsF file ex fn ts K = valF fn ts w
def obsFG (n : Nat) (file : Str) (ex : Ex) (fn : List DefF) (ts : List Tab) (g : Addr → Option Obj) : AlF := topC g n fun K => obsF file ex fn ts K
def hookF (n : Nat) (file : Str) (ex : Ex) (fn : List DefF) (ts : List Tab) : PySem.W.Hook where
  α := AlF
  obs := fun s => obsFG n file ex fn ts s.heap.get?
  val := fun w => valF fn ts w
  says := fun w h => ∃ K : Fr, K.In h ∧ Says file ex fn ts w K
  of := fun w s e => by
    obtain ⟨K, h, q⟩ := topC_ok (g := s.heap.get?) n
    exact ⟨K, good_in h, (q _ _).symm.trans e⟩
  keeps := fun _ _ _ ⟨K, hK, c⟩ k => ⟨K, PySem.W.Frag.In.keeps hK k, c⟩
theorem obsFG_eq {n : Nat} {file : Str} {ex : Ex} {fn : List DefF} {ts : List Tab} {g : Addr → Option Obj} {s : Shared} (h : ∀ a, g a = s.heap.get? a) : obsFG n file ex fn ts g = (hookF n file ex fn ts).obs s := by
  have e : g = s.heap.get? := funext h
  rw [e] <;> rfl
section
variable {file : Str} {ex : Ex} {fn : List DefF} {ts : List Tab} {w : World} {K : Fr}
theorem Says.get (c : Says file ex fn ts w K) (i j : Nat) {f : Fr → Bool} (h : (ex[i]?.bind fun l => l[j]?) = some f) : f K = true := by
  have c1 := (ba (show ((ex.all fun l => l.all fun f => f K) && fn.all fun d => d.ok file K) = true from congrArg (fun z : AlF => z.1) c)).1
  cases e : ex[i]? with
  | none =>
    rw [e] at h
    cases h
  | some l =>
    rw [e] at h
    exact List.all_eq_true.mp (List.all_eq_true.mp c1 l (List.mem_of_getElem? e)) f (List.mem_of_getElem? h)
theorem Says.def_ (c : Says file ex fn ts w K) (i : Nat) {d : DefF} (h : fn[i]? = some d) :
    ∃ oc od dV kV doc pm an cdv ct clo osl, K.lookup (fAd K d.at_) = some ⟨oc, od, .func (PySem.W.fnX d.name d.qual d.params d.body d.scope clo dV kV doc pm an cdv ct), osl⟩ ∧ clo.map (·.1) = d.clo ∧
      PySem.W.codeIn K cdv d.qual = true ∧ dflB K dV (d.dfl.map (Dv.v K)) = true ∧ (match d.own with
        | none => true
        | some C => cellB K file C (PySem.W.fnX d.name d.qual d.params d.body d.scope clo dV kV doc pm an cdv ct)) = true ∧ PySem.W.keepIn K (.ref (fAd K d.at_)) = true := by
  have c2 := (ba (show ((ex.all fun l => l.all fun f => f K) && fn.all fun d => d.ok file K) = true from congrArg (fun z : AlF => z.1) c)).2
  have e : fn.map (fun d => fnV K d.at_) = fn.map DefF.val := congrArg (fun z : AlF => z.2.1) c
  have e2 : (fn.map fun d => fnV K d.at_)[i]? = (fn.map DefF.val)[i]? := by rw [e]
  rw [List.getElem?_map, List.getElem?_map, h] at e2
  exact DefF.out (Option.some.inj e2) (List.all_eq_true.mp c2 d (List.mem_of_getElem? h))
/-- a def without defaults -/
theorem Says.plain (c : Says file ex fn ts w K) (i : Nat) {p : Str × Option Str} {x q : Str} {pa : Arguments} {bo : List Stmt} {sc : Scope} (h : fn[i]? = some ⟨p, x, q, pa, bo, sc, [], none⟩) :
    ∃ oc od kV doc pm an cdv ct osl, K.lookup (fAd K p) = some ⟨oc, od, .func (PySem.W.fnOf x q pa bo sc .none kV doc pm an cdv ct), osl⟩ ∧ PySem.W.codeIn K cdv q = true ∧ PySem.W.keepIn K (.ref (fAd K p)) = true := by
  obtain ⟨oc, od, dV, kV, doc, pm, an, cdv, ct, clo, osl, e, hc, h1, h2, _, h4⟩ := c.def_ i h
  have hd := dfl_nil h2
  have hcl : clo = [] := List.map_eq_nil_iff.mp hc
  subst hd hcl
  exact ⟨oc, od, kV, doc, pm, an, cdv, ct, osl, e, h1, h4⟩
/-- a def with defaults -/
theorem Says.dflt (c : Says file ex fn ts w K) (i : Nat) {p : Str × Option Str} {x q : Str} {pa : Arguments} {bo : List Stmt} {sc : Scope} {v : Dv} {vs : List Dv} (h : fn[i]? = some ⟨p, x, q, pa, bo, sc, v :: vs, none⟩) :
    ∃ oc od dT kV doc pm an cdv ct osl dc dd l n dsl, K.lookup (fAd K p) = some ⟨oc, od, .func (PySem.W.fnOf x q pa bo sc (.ref dT) kV doc pm an cdv ct), osl⟩ ∧ PySem.W.codeIn K cdv q = true ∧ PySem.W.keepIn K (.ref (fAd K p)) = true ∧
      K.lookup dT = some ⟨dc, dd, .seq (List.toArray l) n, dsl⟩ ∧ Vals (v.v K :: vs.map (Dv.v K)) l := by
  obtain ⟨oc, od, dV, kV, doc, pm, an, cdv, ct, clo, osl, e, hc, h1, h2, _, h4⟩ := c.def_ i h
  have hcl : clo = [] := List.map_eq_nil_iff.mp hc
  subst hcl
  obtain ⟨T, dc, dd, l, n, dsl, e1, e2, e3⟩ := dfl_cons h2
  subst e1
  exact ⟨oc, od, T, kV, doc, pm, an, cdv, ct, osl, dc, dd, l, n, dsl, e, h1, h4, e2, e3⟩
/-- an own error's __init__ -/
theorem Says.init (c : Says file ex fn ts w K) (i : Nat) {p : Str × Option Str} {x q C : Str} {pa : Arguments} {bo : List Stmt} {sc : Scope} (h : fn[i]? = some ⟨p, x, q, pa, bo, sc, [], some C⟩) :
    ∃ oc od kV doc pm an cda ct cc osl ccl cdd ccs vs0 tf cl cld csl, K.lookup (fAd K p) = some ⟨oc, od, .func (PySem.W.ksFn x q pa bo sc .none kV doc pm an (.ref cda) ct cc), osl⟩ ∧ PySem.W.codeIn K (.ref cda) q = true ∧
      K.lookup cda = some ⟨ccl, cdd, .fields vs0, ccs⟩ ∧ vs0[2]? = some (.str file tf) ∧ K.lookup cc = some ⟨cl, cld, .cell (some (.ref (ga K C))), csl⟩ := by
  obtain ⟨oc, od, dV, kV, doc, pm, an, cdv, ct, clo, osl, e, hc, h1, h2, h3, h4⟩ := c.def_ i h
  have hd := dfl_nil h2
  subst hd
  obtain ⟨cc, cda, ccl, cdd, ccs, vs0, tf, cl, cld, csl, e1, e2, e3, e4, e5⟩ := cell_ok h3 hc
  have e1 : clo = _ := e1
  have e2 : cdv = _ := e2
  subst e1 e2
  exact ⟨oc, od, kV, doc, pm, an, cda, ct, cc, osl, ccl, cdd, ccs, vs0, tf, cl, cld, csl, e, h1, e3, e4, e5⟩
theorem Says.tab (c : Says file ex fn ts w K) (i : Nat) {f : Fr → Addr} {ks : List Str} (h : ts[i]? = some (f, ks)) : dicW K (f K) = some (He.keysIn w.params ks) := by
  have e : ts.map (fun t => dicW K (t.1 K)) = ts.map fun t => some (He.keysIn w.params t.2) := congrArg (fun z : AlF => z.2.2) c
  have e2 : (ts.map fun t => dicW K (t.1 K))[i]? = (ts.map fun t => some (He.keysIn w.params t.2))[i]? := by rw [e]
  rw [List.getElem?_map, List.getElem?_map, h] at e2
  exact Option.some.inj e2
end
end HdF
set_option Elab.async false
set_option linter.all false
set_option maxRecDepth 100000
set_option maxHeartbeats 0
namespace Toy
open PySem L2 Gm
/-! ### the program's top -/
theorem all_mk {l : PySem.W.OpenLaw} {w : World} {K : PySem.W.Frag} {h : Heap} {mg : Str → Option Value} {fa : Addr} (X : K.In h) (G : h.Ns mainGlobals mg) (hfa : mg "law" = some (.ref fa))
    {C_Game : Addr}
    {od_parts_of an_parts_of : Option Addr} {sl_parts_of : Array (Option Value)} {oc_parts_of kV_parts_of dc_parts_of pm_parts_of cd_parts_of ct_parts_of : Value} {a_parts_of : Addr}
    {od_check_player an_check_player : Option Addr} {sl_check_player : Array (Option Value)} {oc_check_player kV_check_player dc_check_player pm_check_player cd_check_player ct_check_player : Value} {a_check_player : Addr}
    {od_check_below an_check_below : Option Addr} {sl_check_below : Array (Option Value)} {oc_check_below kV_check_below dc_check_below pm_check_below cd_check_below ct_check_below : Value} {a_check_below : Addr}
    {od_check_ask an_check_ask : Option Addr} {sl_check_ask : Array (Option Value)} {oc_check_ask kV_check_ask dc_check_ask pm_check_ask cd_check_ask ct_check_ask : Value} {a_check_ask : Addr}
    {od_chance an_chance : Option Addr} {sl_chance : Array (Option Value)} {oc_chance kV_chance dc_chance pm_chance cd_chance ct_chance : Value} {a_chance : Addr}
    {od_Game_init an_Game_init : Option Addr} {sl_Game_init : Array (Option Value)} {oc_Game_init kV_Game_init dc_Game_init pm_Game_init cd_Game_init ct_Game_init : Value} {a_Game_init : Addr}
    {od_Game_proc an_Game_proc : Option Addr} {sl_Game_proc : Array (Option Value)} {oc_Game_proc kV_Game_proc dc_Game_proc pm_Game_proc cd_Game_proc ct_Game_proc : Value} {a_Game_proc : Addr}
    {od_law_cell an_law_cell : Option Addr} {sl_law_cell : Array (Option Value)} {oc_law_cell kV_law_cell dc_law_cell pm_law_cell cd_law_cell ct_law_cell : Value} {a_law_cell : Addr}
    {od_law_row an_law_row : Option Addr} {sl_law_row : Array (Option Value)} {oc_law_row kV_law_row dc_law_row pm_law_row cd_law_row ct_law_row : Value} {a_law_row : Addr}
    {od_law_side an_law_side : Option Addr} {sl_law_side : Array (Option Value)} {oc_law_side kV_law_side dc_law_side pm_law_side cd_law_side ct_law_side : Value} {a_law_side : Addr}
    {od_law_value an_law_value : Option Addr} {sl_law_value : Array (Option Value)} {oc_law_value kV_law_value dc_law_value pm_law_value cd_law_value ct_law_value : Value} {a_law_value : Addr}
    {od_law_plain an_law_plain : Option Addr} {sl_law_plain : Array (Option Value)} {oc_law_plain kV_law_plain dc_law_plain pm_law_plain cd_law_plain ct_law_plain : Value} {a_law_plain : Addr}
    {od_law_block an_law_block : Option Addr} {sl_law_block : Array (Option Value)} {oc_law_block kV_law_block dc_law_block pm_law_block cd_law_block ct_law_block : Value} {a_law_block : Addr}
    {od_law_game an_law_game : Option Addr} {sl_law_game : Array (Option Value)} {oc_law_game kV_law_game dc_law_game pm_law_game cd_law_game ct_law_game : Value} {a_law_game : Addr}
    {od_law_made an_law_made : Option Addr} {sl_law_made : Array (Option Value)} {oc_law_made kV_law_made dc_law_made pm_law_made cd_law_made ct_law_made : Value} {a_law_made : Addr}
    {od_law_player an_law_player : Option Addr} {sl_law_player : Array (Option Value)} {oc_law_player kV_law_player dc_law_player pm_law_player cd_law_player ct_law_player : Value} {a_law_player : Addr}
    {od_law_refused an_law_refused : Option Addr} {sl_law_refused : Array (Option Value)} {oc_law_refused kV_law_refused dc_law_refused pm_law_refused cd_law_refused ct_law_refused : Value} {a_law_refused : Addr}
    {od_law_below an_law_below : Option Addr} {sl_law_below : Array (Option Value)} {oc_law_below kV_law_below dc_law_below pm_law_below cd_law_below ct_law_below : Value} {a_law_below : Addr}
    {od_law_twice an_law_twice : Option Addr} {sl_law_twice : Array (Option Value)} {oc_law_twice kV_law_twice dc_law_twice pm_law_twice cd_law_twice ct_law_twice : Value} {a_law_twice : Addr}
    {od_law_faulty an_law_faulty : Option Addr} {sl_law_faulty : Array (Option Value)} {oc_law_faulty kV_law_faulty dc_law_faulty pm_law_faulty cd_law_faulty ct_law_faulty : Value} {a_law_faulty : Addr}
    {od_law_wide an_law_wide : Option Addr} {sl_law_wide : Array (Option Value)} {oc_law_wide kV_law_wide dc_law_wide pm_law_wide cd_law_wide ct_law_wide : Value} {a_law_wide : Addr}
    {od_law an_law : Option Addr} {sl_law : Array (Option Value)} {oc_law kV_law dc_law pm_law cd_law ct_law : Value} {a_law : Addr}
    {C_BadPlayer : Addr}
    {C_PlayError : Addr}
    {C_BadBound : Addr}
    {C_BadCall : Addr}
    {C_BadPaper : Addr}
    {C_BadStep : Addr}
    {C_BadText : Addr}
    {C_TooLarge : Addr}
    {tk_DEEPEST_PLAYER : PySem.Tok}
    {tk_MOST_TOSSED : PySem.Tok}
    (o_n : PySem.W.specialIn K (.builtin "object.__class__") "__get__" = some (some (.builtin "getset_descriptor.__get__")))
    (o_t : PySem.W.takesIn K (.builtin "object.__class__") = some true)
    (hC_Game : PySem.W.nsIn K mainGlobals "Game" = some (some (.ref C_Game)))
    (pg_Game : PySem.W.plainGet K C_Game Str.empty = true)
    (hd_Game : PySem.W.hasDictIn K C_Game = true)
    (po_Game : PySem.W.plainOver K C_Game = true)
    (sa_Game : PySem.W.findIn K (.ref C_Game) "__setattr__" = some (some (.builtin "object.__setattr__")))
    (mk_Game : PySem.W.makesIn K C_Game = true)
    (kc_Game : PySem.W.keepIn K (.ref C_Game) = true)
    (sf_Game : PySem.W.selfFirst K C_Game = true)
    (na_Game_variables : PySem.W.findIn K (.ref C_Game) "variables" = some none)
    (na_Game_tables : PySem.W.findIn K (.ref C_Game) "tables" = some none)
    (na_Game_lots : PySem.W.findIn K (.ref C_Game) "lots" = some none)
    (na_Game_procs : PySem.W.findIn K (.ref C_Game) "procs" = some none)
    (h_parts_of : PySem.W.nsIn K mainGlobals "parts_of" = some (some (.ref a_parts_of)))
    (l_parts_of : K.lookup a_parts_of = some ⟨oc_parts_of, od_parts_of, .func (PySem.W.fnOf "parts_of" "parts_of" (defArgs s_parts_of) (defBody s_parts_of) (defScope s_parts_of) .none kV_parts_of dc_parts_of pm_parts_of an_parts_of cd_parts_of ct_parts_of), sl_parts_of⟩)
    (c_parts_of : PySem.W.codeIn K cd_parts_of "parts_of" = true)
    (k_parts_of : PySem.W.keepIn K (.ref a_parts_of) = true)
    (h_check_player : PySem.W.nsIn K mainGlobals "check_player" = some (some (.ref a_check_player)))
    (l_check_player : K.lookup a_check_player = some ⟨oc_check_player, od_check_player, .func (PySem.W.fnOf "check_player" "check_player" (defArgs s_check_player) (defBody s_check_player) (defScope s_check_player) .none kV_check_player dc_check_player pm_check_player an_check_player cd_check_player ct_check_player), sl_check_player⟩)
    (c_check_player : PySem.W.codeIn K cd_check_player "check_player" = true)
    (k_check_player : PySem.W.keepIn K (.ref a_check_player) = true)
    (h_check_below : PySem.W.nsIn K mainGlobals "check_below" = some (some (.ref a_check_below)))
    (l_check_below : K.lookup a_check_below = some ⟨oc_check_below, od_check_below, .func (PySem.W.fnOf "check_below" "check_below" (defArgs s_check_below) (defBody s_check_below) (defScope s_check_below) .none kV_check_below dc_check_below pm_check_below an_check_below cd_check_below ct_check_below), sl_check_below⟩)
    (c_check_below : PySem.W.codeIn K cd_check_below "check_below" = true)
    (k_check_below : PySem.W.keepIn K (.ref a_check_below) = true)
    (h_check_ask : PySem.W.nsIn K mainGlobals "check_ask" = some (some (.ref a_check_ask)))
    (l_check_ask : K.lookup a_check_ask = some ⟨oc_check_ask, od_check_ask, .func (PySem.W.fnOf "check_ask" "check_ask" (defArgs s_check_ask) (defBody s_check_ask) (defScope s_check_ask) .none kV_check_ask dc_check_ask pm_check_ask an_check_ask cd_check_ask ct_check_ask), sl_check_ask⟩)
    (c_check_ask : PySem.W.codeIn K cd_check_ask "check_ask" = true)
    (k_check_ask : PySem.W.keepIn K (.ref a_check_ask) = true)
    (h_chance : PySem.W.nsIn K mainGlobals "chance" = some (some (.ref a_chance)))
    (l_chance : K.lookup a_chance = some ⟨oc_chance, od_chance, .func (PySem.W.fnOf "chance" "chance" (defArgs s_chance) (defBody s_chance) (defScope s_chance) .none kV_chance dc_chance pm_chance an_chance cd_chance ct_chance), sl_chance⟩)
    (c_chance : PySem.W.codeIn K cd_chance "chance" = true)
    (k_chance : PySem.W.keepIn K (.ref a_chance) = true)
    (h_Game_init : PySem.W.findIn K (.ref C_Game) "__init__" = some (some (.ref a_Game_init)))
    (i_Game_init : PySem.W.isFn K (.ref a_Game_init) = true)
    (l_Game_init : K.lookup a_Game_init = some ⟨oc_Game_init, od_Game_init, .func (PySem.W.fnOf "__init__" "Game.__init__" (defArgs s_Game_init) (defBody s_Game_init) (defScope s_Game_init) .none kV_Game_init dc_Game_init pm_Game_init an_Game_init cd_Game_init ct_Game_init), sl_Game_init⟩)
    (c_Game_init : PySem.W.codeIn K cd_Game_init "Game.__init__" = true)
    (k_Game_init : PySem.W.keepIn K (.ref a_Game_init) = true)
    (h_Game_proc : PySem.W.findIn K (.ref C_Game) "proc" = some (some (.ref a_Game_proc)))
    (i_Game_proc : PySem.W.isFn K (.ref a_Game_proc) = true)
    (l_Game_proc : K.lookup a_Game_proc = some ⟨oc_Game_proc, od_Game_proc, .func (PySem.W.fnOf "proc" "Game.proc" (defArgs s_Game_proc) (defBody s_Game_proc) (defScope s_Game_proc) .none kV_Game_proc dc_Game_proc pm_Game_proc an_Game_proc cd_Game_proc ct_Game_proc), sl_Game_proc⟩)
    (c_Game_proc : PySem.W.codeIn K cd_Game_proc "Game.proc" = true)
    (k_Game_proc : PySem.W.keepIn K (.ref a_Game_proc) = true)
    (h_law_cell : PySem.W.nsIn K mainGlobals "_law_cell" = some (some (.ref a_law_cell)))
    (l_law_cell : K.lookup a_law_cell = some ⟨oc_law_cell, od_law_cell, .func (PySem.W.fnOf "_law_cell" "_law_cell" (defArgs s_law_cell) (defBody s_law_cell) (defScope s_law_cell) .none kV_law_cell dc_law_cell pm_law_cell an_law_cell cd_law_cell ct_law_cell), sl_law_cell⟩)
    (c_law_cell : PySem.W.codeIn K cd_law_cell "_law_cell" = true)
    (k_law_cell : PySem.W.keepIn K (.ref a_law_cell) = true)
    (h_law_row : PySem.W.nsIn K mainGlobals "_law_row" = some (some (.ref a_law_row)))
    (l_law_row : K.lookup a_law_row = some ⟨oc_law_row, od_law_row, .func (PySem.W.fnOf "_law_row" "_law_row" (defArgs s_law_row) (defBody s_law_row) (defScope s_law_row) .none kV_law_row dc_law_row pm_law_row an_law_row cd_law_row ct_law_row), sl_law_row⟩)
    (c_law_row : PySem.W.codeIn K cd_law_row "_law_row" = true)
    (k_law_row : PySem.W.keepIn K (.ref a_law_row) = true)
    (h_law_side : PySem.W.nsIn K mainGlobals "_law_side" = some (some (.ref a_law_side)))
    (l_law_side : K.lookup a_law_side = some ⟨oc_law_side, od_law_side, .func (PySem.W.fnOf "_law_side" "_law_side" (defArgs s_law_side) (defBody s_law_side) (defScope s_law_side) .none kV_law_side dc_law_side pm_law_side an_law_side cd_law_side ct_law_side), sl_law_side⟩)
    (c_law_side : PySem.W.codeIn K cd_law_side "_law_side" = true)
    (k_law_side : PySem.W.keepIn K (.ref a_law_side) = true)
    (h_law_value : PySem.W.nsIn K mainGlobals "_law_value" = some (some (.ref a_law_value)))
    (l_law_value : K.lookup a_law_value = some ⟨oc_law_value, od_law_value, .func (PySem.W.fnOf "_law_value" "_law_value" (defArgs s_law_value) (defBody s_law_value) (defScope s_law_value) .none kV_law_value dc_law_value pm_law_value an_law_value cd_law_value ct_law_value), sl_law_value⟩)
    (c_law_value : PySem.W.codeIn K cd_law_value "_law_value" = true)
    (k_law_value : PySem.W.keepIn K (.ref a_law_value) = true)
    (h_law_plain : PySem.W.nsIn K mainGlobals "_law_plain" = some (some (.ref a_law_plain)))
    (l_law_plain : K.lookup a_law_plain = some ⟨oc_law_plain, od_law_plain, .func (PySem.W.fnOf "_law_plain" "_law_plain" (defArgs s_law_plain) (defBody s_law_plain) (defScope s_law_plain) .none kV_law_plain dc_law_plain pm_law_plain an_law_plain cd_law_plain ct_law_plain), sl_law_plain⟩)
    (c_law_plain : PySem.W.codeIn K cd_law_plain "_law_plain" = true)
    (k_law_plain : PySem.W.keepIn K (.ref a_law_plain) = true)
    (h_law_block : PySem.W.nsIn K mainGlobals "_law_block" = some (some (.ref a_law_block)))
    (l_law_block : K.lookup a_law_block = some ⟨oc_law_block, od_law_block, .func (PySem.W.fnOf "_law_block" "_law_block" (defArgs s_law_block) (defBody s_law_block) (defScope s_law_block) .none kV_law_block dc_law_block pm_law_block an_law_block cd_law_block ct_law_block), sl_law_block⟩)
    (c_law_block : PySem.W.codeIn K cd_law_block "_law_block" = true)
    (k_law_block : PySem.W.keepIn K (.ref a_law_block) = true)
    (h_law_game : PySem.W.nsIn K mainGlobals "_law_game" = some (some (.ref a_law_game)))
    (l_law_game : K.lookup a_law_game = some ⟨oc_law_game, od_law_game, .func (PySem.W.fnOf "_law_game" "_law_game" (defArgs s_law_game) (defBody s_law_game) (defScope s_law_game) .none kV_law_game dc_law_game pm_law_game an_law_game cd_law_game ct_law_game), sl_law_game⟩)
    (c_law_game : PySem.W.codeIn K cd_law_game "_law_game" = true)
    (k_law_game : PySem.W.keepIn K (.ref a_law_game) = true)
    (h_law_made : PySem.W.nsIn K mainGlobals "_law_made" = some (some (.ref a_law_made)))
    (l_law_made : K.lookup a_law_made = some ⟨oc_law_made, od_law_made, .func (PySem.W.fnOf "_law_made" "_law_made" (defArgs s_law_made) (defBody s_law_made) (defScope s_law_made) .none kV_law_made dc_law_made pm_law_made an_law_made cd_law_made ct_law_made), sl_law_made⟩)
    (c_law_made : PySem.W.codeIn K cd_law_made "_law_made" = true)
    (k_law_made : PySem.W.keepIn K (.ref a_law_made) = true)
    (h_law_player : PySem.W.nsIn K mainGlobals "_law_player" = some (some (.ref a_law_player)))
    (l_law_player : K.lookup a_law_player = some ⟨oc_law_player, od_law_player, .func (PySem.W.fnOf "_law_player" "_law_player" (defArgs s_law_player) (defBody s_law_player) (defScope s_law_player) .none kV_law_player dc_law_player pm_law_player an_law_player cd_law_player ct_law_player), sl_law_player⟩)
    (c_law_player : PySem.W.codeIn K cd_law_player "_law_player" = true)
    (k_law_player : PySem.W.keepIn K (.ref a_law_player) = true)
    (h_law_refused : PySem.W.nsIn K mainGlobals "_law_refused" = some (some (.ref a_law_refused)))
    (l_law_refused : K.lookup a_law_refused = some ⟨oc_law_refused, od_law_refused, .func (PySem.W.fnOf "_law_refused" "_law_refused" (defArgs s_law_refused) (defBody s_law_refused) (defScope s_law_refused) .none kV_law_refused dc_law_refused pm_law_refused an_law_refused cd_law_refused ct_law_refused), sl_law_refused⟩)
    (c_law_refused : PySem.W.codeIn K cd_law_refused "_law_refused" = true)
    (k_law_refused : PySem.W.keepIn K (.ref a_law_refused) = true)
    (h_law_below : PySem.W.nsIn K mainGlobals "_law_below" = some (some (.ref a_law_below)))
    (l_law_below : K.lookup a_law_below = some ⟨oc_law_below, od_law_below, .func (PySem.W.fnOf "_law_below" "_law_below" (defArgs s_law_below) (defBody s_law_below) (defScope s_law_below) .none kV_law_below dc_law_below pm_law_below an_law_below cd_law_below ct_law_below), sl_law_below⟩)
    (c_law_below : PySem.W.codeIn K cd_law_below "_law_below" = true)
    (k_law_below : PySem.W.keepIn K (.ref a_law_below) = true)
    (h_law_twice : PySem.W.nsIn K mainGlobals "_law_twice" = some (some (.ref a_law_twice)))
    (l_law_twice : K.lookup a_law_twice = some ⟨oc_law_twice, od_law_twice, .func (PySem.W.fnOf "_law_twice" "_law_twice" (defArgs s_law_twice) (defBody s_law_twice) (defScope s_law_twice) .none kV_law_twice dc_law_twice pm_law_twice an_law_twice cd_law_twice ct_law_twice), sl_law_twice⟩)
    (c_law_twice : PySem.W.codeIn K cd_law_twice "_law_twice" = true)
    (k_law_twice : PySem.W.keepIn K (.ref a_law_twice) = true)
    (h_law_faulty : PySem.W.nsIn K mainGlobals "_law_faulty" = some (some (.ref a_law_faulty)))
    (l_law_faulty : K.lookup a_law_faulty = some ⟨oc_law_faulty, od_law_faulty, .func (PySem.W.fnOf "_law_faulty" "_law_faulty" (defArgs s_law_faulty) (defBody s_law_faulty) (defScope s_law_faulty) .none kV_law_faulty dc_law_faulty pm_law_faulty an_law_faulty cd_law_faulty ct_law_faulty), sl_law_faulty⟩)
    (c_law_faulty : PySem.W.codeIn K cd_law_faulty "_law_faulty" = true)
    (k_law_faulty : PySem.W.keepIn K (.ref a_law_faulty) = true)
    (h_law_wide : PySem.W.nsIn K mainGlobals "_law_wide" = some (some (.ref a_law_wide)))
    (l_law_wide : K.lookup a_law_wide = some ⟨oc_law_wide, od_law_wide, .func (PySem.W.fnOf "_law_wide" "_law_wide" (defArgs s_law_wide) (defBody s_law_wide) (defScope s_law_wide) .none kV_law_wide dc_law_wide pm_law_wide an_law_wide cd_law_wide ct_law_wide), sl_law_wide⟩)
    (c_law_wide : PySem.W.codeIn K cd_law_wide "_law_wide" = true)
    (k_law_wide : PySem.W.keepIn K (.ref a_law_wide) = true)
    (h_law : PySem.W.nsIn K mainGlobals "law" = some (some (.ref a_law)))
    (l_law : K.lookup a_law = some ⟨oc_law, od_law, .func (PySem.W.fnOf "law" "law" (defArgs s_law) (defBody s_law) (defScope s_law) .none kV_law dc_law pm_law an_law cd_law ct_law), sl_law⟩)
    (c_law : PySem.W.codeIn K cd_law "law" = true)
    (k_law : PySem.W.keepIn K (.ref a_law) = true)
    (hC_BadPlayer : PySem.W.nsIn K mainGlobals "BadPlayer" = some (some (.ref C_BadPlayer)))
    (kc_BadPlayer : PySem.W.keepIn K (.ref C_BadPlayer) = true)
    (xb_BadPlayer : PySem.W.subIn K (.ref C_BadPlayer) (.type "BaseException") = some true)
    (xt_BadPlayer : PySem.W.typeIn K (.ref C_BadPlayer) = some (.type "type"))
    (xd_BadPlayer : PySem.W.hasDictIn K C_BadPlayer = true)
    (x_BadPlayer : PySem.W.excIn K C_BadPlayer [.type "ValueError", .type "Exception", .type "BaseException", .type "object"] "ValueError.__new__" = true)
    (hC_PlayError : PySem.W.nsIn K mainGlobals "PlayError" = some (some (.ref C_PlayError)))
    (kc_PlayError : PySem.W.keepIn K (.ref C_PlayError) = true)
    (xb_PlayError : PySem.W.subIn K (.ref C_PlayError) (.type "BaseException") = some true)
    (xt_PlayError : PySem.W.typeIn K (.ref C_PlayError) = some (.type "type"))
    (xd_PlayError : PySem.W.hasDictIn K C_PlayError = true)
    (hC_BadBound : PySem.W.nsIn K mainGlobals "BadBound" = some (some (.ref C_BadBound)))
    (hC_BadCall : PySem.W.nsIn K mainGlobals "BadCall" = some (some (.ref C_BadCall)))
    (hC_BadPaper : PySem.W.nsIn K mainGlobals "BadPaper" = some (some (.ref C_BadPaper)))
    (hC_BadStep : PySem.W.nsIn K mainGlobals "BadStep" = some (some (.ref C_BadStep)))
    (hC_BadText : PySem.W.nsIn K mainGlobals "BadText" = some (some (.ref C_BadText)))
    (hC_TooLarge : PySem.W.nsIn K mainGlobals "TooLarge" = some (some (.ref C_TooLarge)))
    (eg_BadPlayer : PySem.W.findIn K (.ref C_BadPlayer) "__getattribute__" = some (some (.builtin "BaseException.__getattribute__")))
    (ek_BadPlayer : PySem.W.findIn K (.ref C_BadPlayer) "__getattr__" = some none)
    (ea_BadPlayer : PySem.W.findIn K (.ref C_BadPlayer) "__class__" = some (some (.builtin "object.__class__")))
    (em_BadPlayer : PySem.W.mroIn K C_BadPlayer (.type "object") = some true)
    (hg_DEEPEST_PLAYER : PySem.W.nsIn K mainGlobals "DEEPEST_PLAYER" = some (some (.int 8 tk_DEEPEST_PLAYER)))
    (hg_MOST_TOSSED : PySem.W.nsIn K mainGlobals "MOST_TOSSED" = some (some (.int 16 tk_MOST_TOSSED)))
    (zn_len : PySem.W.nsIn K mainGlobals "len" = some none)
    (zn_range : PySem.W.nsIn K mainGlobals "range" = some none)
    (zn_int : PySem.W.nsIn K mainGlobals "int" = some none)
    (zn_tuple : PySem.W.nsIn K mainGlobals "tuple" = some none)
    (zn_list : PySem.W.nsIn K mainGlobals "list" = some none)
    (zn_isinstance : PySem.W.nsIn K mainGlobals "isinstance" = some none)
    (zn_abs : PySem.W.nsIn K mainGlobals "abs" = some none)
    (sub_bp : PySem.W.subIn K (.ref C_BadPlayer) (.ref C_PlayError) = some true)
    (ki_b : PySem.W.kitOne K (.ref C_BadPlayer) (.ref C_BadPlayer) = some true)
    (ki_e : PySem.W.kitAny K (.ref C_BadPlayer) [.ref C_BadBound, .ref C_BadCall, .ref C_BadPaper, .ref C_BadStep, .ref C_BadText, .ref C_TooLarge] = some false) :
    ∃ fd : FuncData, (∀ (s : Shared) (v : Value), BindsTo s fd ⟨[v], []⟩ [("script", v)]) ∧ ∀ base : Heap, K.In base → base.Ns mainGlobals mg → FnOk l.prog w K mg base CX0 60 fa fd ["script"] (spLaw K) := by
  have e := hfa.symm.trans (PySem.W.mg_of X G h_law)
  cases e
  have F_parts_of := fun_mk (st := s_parts_of) l_parts_of c_parts_of k_parts_of
  have b_parts_of := F_parts_of.binds (ps := ["player"]) fun _ _ _ _ _ _ us hl => match us, hl with | [_], _ => rfl
  have F_check_player := fun_mk (st := s_check_player) l_check_player c_check_player k_check_player
  have b_check_player := F_check_player.binds (ps := ["game", "player"]) fun _ _ _ _ _ _ us hl => match us, hl with | [_, _], _ => rfl
  have F_check_below := fun_mk (st := s_check_below) l_check_below c_check_below k_check_below
  have b_check_below := F_check_below.binds (ps := ["game", "player", "left"]) fun _ _ _ _ _ _ us hl => match us, hl with | [_, _, _], _ => rfl
  have F_check_ask := fun_mk (st := s_check_ask) l_check_ask c_check_ask k_check_ask
  have b_check_ask := F_check_ask.binds (ps := ["game", "player"]) fun _ _ _ _ _ _ us hl => match us, hl with | [_, _], _ => rfl
  have F_chance := fun_mk (st := s_chance) l_chance c_chance k_chance
  have b_chance := F_chance.binds (ps := ["game", "player"]) fun _ _ _ _ _ _ us hl => match us, hl with | [_, _], _ => rfl
  have F_Game_init := fun_mk (st := s_Game_init) l_Game_init c_Game_init k_Game_init
  have b_Game_init := F_Game_init.binds (ps := ["self", "variables", "tables", "lots", "procs"]) fun _ _ _ _ _ _ us hl => match us, hl with | [_, _, _, _, _], _ => rfl
  have F_Game_proc := fun_mk (st := s_Game_proc) l_Game_proc c_Game_proc k_Game_proc
  have b_Game_proc := F_Game_proc.binds (ps := ["self", "name"]) fun _ _ _ _ _ _ us hl => match us, hl with | [_, _], _ => rfl
  have F_law_cell := fun_mk (st := s_law_cell) l_law_cell c_law_cell k_law_cell
  have b_law_cell := F_law_cell.binds (ps := ["script", "k"]) fun _ _ _ _ _ _ us hl => match us, hl with | [_, _], _ => rfl
  have F_law_row := fun_mk (st := s_law_row) l_law_row c_law_row k_law_row
  have b_law_row := F_law_row.binds (ps := ["cell", "count", "size"]) fun _ _ _ _ _ _ us hl => match us, hl with | [_, _, _], _ => rfl
  have F_law_side := fun_mk (st := s_law_side) l_law_side c_law_side k_law_side
  have b_law_side := F_law_side.binds (ps := ["code", "names", "variables", "tables"]) fun _ _ _ _ _ _ us hl => match us, hl with | [_, _, _, _], _ => rfl
  have F_law_value := fun_mk (st := s_law_value) l_law_value c_law_value k_law_value
  have b_law_value := F_law_value.binds (ps := ["cell", "names", "variables", "tables"]) fun _ _ _ _ _ _ us hl => match us, hl with | [_, _, _, _], _ => rfl
  have F_law_plain := fun_mk (st := s_law_plain) l_law_plain c_law_plain k_law_plain
  have b_law_plain := F_law_plain.binds (ps := ["cell", "names", "variables", "tables", "lots"]) fun _ _ _ _ _ _ us hl => match us, hl with | [_, _, _, _, _], _ => rfl
  have F_law_block := fun_mk (st := s_law_block) l_law_block c_law_block k_law_block
  have b_law_block := F_law_block.binds (ps := ["cells", "names", "variables", "tables", "lots"]) fun _ _ _ _ _ _ us hl => match us, hl with | [_, _, _, _, _], _ => rfl
  have F_law_game := fun_mk (st := s_law_game) l_law_game c_law_game k_law_game
  have b_law_game := F_law_game.binds (ps := ["script", "at"]) fun _ _ _ _ _ _ us hl => match us, hl with | [_, _], _ => rfl
  have F_law_made := fun_mk (st := s_law_made) l_law_made c_law_made k_law_made
  have b_law_made := F_law_made.binds (ps := ["game"]) fun _ _ _ _ _ _ us hl => match us, hl with | [_], _ => rfl
  have F_law_player := fun_mk (st := s_law_player) l_law_player c_law_player k_law_player
  have b_law_player := F_law_player.binds (ps := ["cell", "procs", "deep"]) fun _ _ _ _ _ _ us hl => match us, hl with | [_, _, _], _ => rfl
  have F_law_refused := fun_mk (st := s_law_refused) l_law_refused c_law_refused k_law_refused
  have b_law_refused := F_law_refused.binds (ps := ["made", "player", "whole_v"]) fun _ _ _ _ _ _ us hl => match us, hl with | [_, _, _], _ => rfl
  have F_law_below := fun_mk (st := s_law_below) l_law_below c_law_below k_law_below
  have b_law_below := F_law_below.binds (ps := ["player", "links", "name", "beside", "cell"]) fun _ _ _ _ _ _ us hl => match us, hl with | [_, _, _, _, _], _ => rfl
  have F_law_twice := fun_mk (st := s_law_twice) l_law_twice c_law_twice k_law_twice
  have b_law_twice := F_law_twice.binds (ps := ["cell"]) fun _ _ _ _ _ _ us hl => match us, hl with | [_], _ => rfl
  have F_law_faulty := fun_mk (st := s_law_faulty) l_law_faulty c_law_faulty k_law_faulty
  have b_law_faulty := F_law_faulty.binds (ps := ["way", "name"]) fun _ _ _ _ _ _ us hl => match us, hl with | [_, _], _ => rfl
  have F_law_wide := fun_mk (st := s_law_wide) l_law_wide c_law_wide k_law_wide
  have b_law_wide := F_law_wide.binds (ps := ["player", "name", "cell"]) fun _ _ _ _ _ _ us hl => match us, hl with | [_, _, _], _ => rfl
  have F_law := fun_mk (st := s_law) l_law c_law k_law
  have b_law := F_law.binds (ps := ["script"]) fun _ _ _ _ _ _ us hl => match us, hl with | [_], _ => rfl
  refine ⟨PySem.W.fnOf "law" "law" (defArgs s_law) (defBody s_law) (defScope s_law) .none kV_law dc_law pm_law an_law cd_law ct_law, fun s v => .of_eq rfl, fun base _ _ => ?_⟩
  exact ok_law (mg := mg) (K := K) {
    a_parts_of := _
    fd_parts_of := _
    a_check_player := _
    fd_check_player := _
    a_check_below := _
    fd_check_below := _
    a_check_ask := _
    fd_check_ask := _
    a_chance := _
    fd_chance := _
    a_Game_init := _
    fd_Game_init := _
    a_Game_proc := _
    fd_Game_proc := _
    a_law_cell := _
    fd_law_cell := _
    a_law_row := _
    fd_law_row := _
    a_law_side := _
    fd_law_side := _
    a_law_value := _
    fd_law_value := _
    a_law_plain := _
    fd_law_plain := _
    a_law_block := _
    fd_law_block := _
    a_law_game := _
    fd_law_game := _
    a_law_made := _
    fd_law_made := _
    a_law_player := _
    fd_law_player := _
    a_law_refused := _
    fd_law_refused := _
    a_law_below := _
    fd_law_below := _
    a_law_twice := _
    fd_law_twice := _
    a_law_faulty := _
    fd_law_faulty := _
    a_law_wide := _
    fd_law_wide := _
    a_law := _
    fd_law := _
    C_Game := _
    C_BadPlayer := _
    C_PlayError := _
    C_BadBound := _
    C_BadCall := _
    C_BadPaper := _
    C_BadStep := _
    C_BadText := _
    C_TooLarge := _
    o_n := o_n
    o_t := o_t
    g_Game := PySem.W.mg_of X G hC_Game
    cl_Game := ⟨pg_Game, hd_Game, po_Game, sa_Game⟩
    sf_Game := sf_Game
    na_Game_variables := na_Game_variables
    na_Game_tables := na_Game_tables
    na_Game_lots := na_Game_lots
    na_Game_procs := na_Game_procs
    F_parts_of := F_parts_of
    b_parts_of := b_parts_of
    k_parts_of := k_parts_of
    g_parts_of := PySem.W.mg_of X G h_parts_of
    F_check_player := F_check_player
    b_check_player := b_check_player
    k_check_player := k_check_player
    g_check_player := PySem.W.mg_of X G h_check_player
    F_check_below := F_check_below
    b_check_below := b_check_below
    k_check_below := k_check_below
    g_check_below := PySem.W.mg_of X G h_check_below
    F_check_ask := F_check_ask
    b_check_ask := b_check_ask
    k_check_ask := k_check_ask
    g_check_ask := PySem.W.mg_of X G h_check_ask
    F_chance := F_chance
    b_chance := b_chance
    k_chance := k_chance
    g_chance := PySem.W.mg_of X G h_chance
    F_Game_init := F_Game_init
    b_Game_init := b_Game_init
    k_Game_init := k_Game_init
    m_Game_init := ⟨h_Game_init, i_Game_init, k_Game_init⟩
    F_Game_proc := F_Game_proc
    b_Game_proc := b_Game_proc
    k_Game_proc := k_Game_proc
    m_Game_proc := ⟨h_Game_proc, i_Game_proc, k_Game_proc⟩
    F_law_cell := F_law_cell
    b_law_cell := b_law_cell
    k_law_cell := k_law_cell
    g_law_cell := PySem.W.mg_of X G h_law_cell
    F_law_row := F_law_row
    b_law_row := b_law_row
    k_law_row := k_law_row
    g_law_row := PySem.W.mg_of X G h_law_row
    F_law_side := F_law_side
    b_law_side := b_law_side
    k_law_side := k_law_side
    g_law_side := PySem.W.mg_of X G h_law_side
    F_law_value := F_law_value
    b_law_value := b_law_value
    k_law_value := k_law_value
    g_law_value := PySem.W.mg_of X G h_law_value
    F_law_plain := F_law_plain
    b_law_plain := b_law_plain
    k_law_plain := k_law_plain
    g_law_plain := PySem.W.mg_of X G h_law_plain
    F_law_block := F_law_block
    b_law_block := b_law_block
    k_law_block := k_law_block
    g_law_block := PySem.W.mg_of X G h_law_block
    F_law_game := F_law_game
    b_law_game := b_law_game
    k_law_game := k_law_game
    g_law_game := PySem.W.mg_of X G h_law_game
    F_law_made := F_law_made
    b_law_made := b_law_made
    k_law_made := k_law_made
    g_law_made := PySem.W.mg_of X G h_law_made
    F_law_player := F_law_player
    b_law_player := b_law_player
    k_law_player := k_law_player
    g_law_player := PySem.W.mg_of X G h_law_player
    F_law_refused := F_law_refused
    b_law_refused := b_law_refused
    k_law_refused := k_law_refused
    g_law_refused := PySem.W.mg_of X G h_law_refused
    F_law_below := F_law_below
    b_law_below := b_law_below
    k_law_below := k_law_below
    g_law_below := PySem.W.mg_of X G h_law_below
    F_law_twice := F_law_twice
    b_law_twice := b_law_twice
    k_law_twice := k_law_twice
    g_law_twice := PySem.W.mg_of X G h_law_twice
    F_law_faulty := F_law_faulty
    b_law_faulty := b_law_faulty
    k_law_faulty := k_law_faulty
    g_law_faulty := PySem.W.mg_of X G h_law_faulty
    F_law_wide := F_law_wide
    b_law_wide := b_law_wide
    k_law_wide := k_law_wide
    g_law_wide := PySem.W.mg_of X G h_law_wide
    F_law := F_law
    b_law := b_law
    k_law := k_law
    g_law := PySem.W.mg_of X G h_law
    mk_Game := ⟨mk_Game, h_Game_init, i_Game_init, kc_Game⟩
    g_BadPlayer := PySem.W.mg_of X G hC_BadPlayer
    kc_BadPlayer := kc_BadPlayer
    xb_BadPlayer := xb_BadPlayer
    xt_BadPlayer := xt_BadPlayer
    xd_BadPlayer := xd_BadPlayer
    x_BadPlayer := x_BadPlayer
    g_PlayError := PySem.W.mg_of X G hC_PlayError
    kc_PlayError := kc_PlayError
    xb_PlayError := xb_PlayError
    xt_PlayError := xt_PlayError
    xd_PlayError := xd_PlayError
    g_BadBound := PySem.W.mg_of X G hC_BadBound
    g_BadCall := PySem.W.mg_of X G hC_BadCall
    g_BadPaper := PySem.W.mg_of X G hC_BadPaper
    g_BadStep := PySem.W.mg_of X G hC_BadStep
    g_BadText := PySem.W.mg_of X G hC_BadText
    g_TooLarge := PySem.W.mg_of X G hC_TooLarge
    ec_BadPlayer := ⟨eg_BadPlayer, ek_BadPlayer, xb_BadPlayer, xd_BadPlayer, ea_BadPlayer, o_n, o_t, em_BadPlayer⟩
    g_DEEPEST_PLAYER := ⟨_, PySem.W.mg_of X G hg_DEEPEST_PLAYER⟩
    g_MOST_TOSSED := ⟨_, PySem.W.mg_of X G hg_MOST_TOSSED⟩
    z_len := PySem.W.mg_none_of X G zn_len
    z_range := PySem.W.mg_none_of X G zn_range
    z_int := PySem.W.mg_none_of X G zn_int
    z_tuple := PySem.W.mg_none_of X G zn_tuple
    z_list := PySem.W.mg_none_of X G zn_list
    z_isinstance := PySem.W.mg_none_of X G zn_isinstance
    z_abs := PySem.W.mg_none_of X G zn_abs
    sub_bp := sub_bp
    ki_b := ki_b
    ki_e := ki_e }
def exs0 : List (PySem.W.Frag → Bool) := [
    fun K => HdF.intB K "DEEPEST_PLAYER" 8,
    fun K => HdF.intB K "MOST_TOSSED" 16,
    fun K => decide (PySem.W.specialIn K (.builtin "object.__class__") "__get__" = some (some (.builtin "getset_descriptor.__get__"))),
    fun K => decide (PySem.W.takesIn K (.builtin "object.__class__") = some true),
    fun K => decide (PySem.W.nsIn K mainGlobals "Game" = some (some (.ref (He.ga K "Game")))),
    fun K => decide (PySem.W.plainGet K (He.ga K "Game") Str.empty = true),
    fun K => decide (PySem.W.hasDictIn K (He.ga K "Game") = true),
    fun K => decide (PySem.W.plainOver K (He.ga K "Game") = true),
    fun K => decide (PySem.W.findIn K (.ref (He.ga K "Game")) "__setattr__" = some (some (.builtin "object.__setattr__"))),
    fun K => decide (PySem.W.makesIn K (He.ga K "Game") = true),
    fun K => decide (PySem.W.keepIn K (.ref (He.ga K "Game")) = true),
    fun K => decide (PySem.W.selfFirst K (He.ga K "Game") = true),
    fun K => decide (PySem.W.findIn K (.ref (He.ga K "Game")) "variables" = some none),
    fun K => decide (PySem.W.findIn K (.ref (He.ga K "Game")) "tables" = some none),
    fun K => decide (PySem.W.findIn K (.ref (He.ga K "Game")) "lots" = some none),
    fun K => decide (PySem.W.findIn K (.ref (He.ga K "Game")) "procs" = some none),
    fun K => decide (PySem.W.nsIn K mainGlobals "parts_of" = some (some (.ref (He.ga K "parts_of")))),
    fun K => decide (PySem.W.nsIn K mainGlobals "check_player" = some (some (.ref (He.ga K "check_player")))),
    fun K => decide (PySem.W.nsIn K mainGlobals "check_below" = some (some (.ref (He.ga K "check_below")))),
    fun K => decide (PySem.W.nsIn K mainGlobals "check_ask" = some (some (.ref (He.ga K "check_ask")))),
    fun K => decide (PySem.W.nsIn K mainGlobals "chance" = some (some (.ref (He.ga K "chance")))),
    fun K => decide (PySem.W.findIn K (.ref (He.ga K "Game")) "__init__" = some (some (.ref (He.ma K (He.ga K "Game") "__init__")))),
    fun K => decide (PySem.W.isFn K (.ref (He.ma K (He.ga K "Game") "__init__")) = true),
    fun K => decide (PySem.W.findIn K (.ref (He.ga K "Game")) "proc" = some (some (.ref (He.ma K (He.ga K "Game") "proc")))),
    fun K => decide (PySem.W.isFn K (.ref (He.ma K (He.ga K "Game") "proc")) = true),
    fun K => decide (PySem.W.nsIn K mainGlobals "_law_cell" = some (some (.ref (He.ga K "_law_cell")))),
    fun K => decide (PySem.W.nsIn K mainGlobals "_law_row" = some (some (.ref (He.ga K "_law_row")))),
    fun K => decide (PySem.W.nsIn K mainGlobals "_law_side" = some (some (.ref (He.ga K "_law_side")))),
    fun K => decide (PySem.W.nsIn K mainGlobals "_law_value" = some (some (.ref (He.ga K "_law_value")))),
    fun K => decide (PySem.W.nsIn K mainGlobals "_law_plain" = some (some (.ref (He.ga K "_law_plain")))),
    fun K => decide (PySem.W.nsIn K mainGlobals "_law_block" = some (some (.ref (He.ga K "_law_block")))),
    fun K => decide (PySem.W.nsIn K mainGlobals "_law_game" = some (some (.ref (He.ga K "_law_game")))),
    fun K => decide (PySem.W.nsIn K mainGlobals "_law_made" = some (some (.ref (He.ga K "_law_made")))),
    fun K => decide (PySem.W.nsIn K mainGlobals "_law_player" = some (some (.ref (He.ga K "_law_player")))),
    fun K => decide (PySem.W.nsIn K mainGlobals "_law_refused" = some (some (.ref (He.ga K "_law_refused")))),
    fun K => decide (PySem.W.nsIn K mainGlobals "_law_below" = some (some (.ref (He.ga K "_law_below")))),
    fun K => decide (PySem.W.nsIn K mainGlobals "_law_twice" = some (some (.ref (He.ga K "_law_twice")))),
    fun K => decide (PySem.W.nsIn K mainGlobals "_law_faulty" = some (some (.ref (He.ga K "_law_faulty")))),
    fun K => decide (PySem.W.nsIn K mainGlobals "_law_wide" = some (some (.ref (He.ga K "_law_wide")))),
    fun K => decide (PySem.W.nsIn K mainGlobals "law" = some (some (.ref (He.ga K "law"))))]
def exs1 : List (PySem.W.Frag → Bool) := [
    fun K => decide (PySem.W.nsIn K mainGlobals "BadPlayer" = some (some (.ref (He.ga K "BadPlayer")))),
    fun K => decide (PySem.W.keepIn K (.ref (He.ga K "BadPlayer")) = true),
    fun K => decide (PySem.W.subIn K (.ref (He.ga K "BadPlayer")) (.type "BaseException") = some true),
    fun K => decide (PySem.W.typeIn K (.ref (He.ga K "BadPlayer")) = some (.type "type")),
    fun K => decide (PySem.W.hasDictIn K (He.ga K "BadPlayer") = true),
    fun K => decide (PySem.W.excIn K (He.ga K "BadPlayer") [.type "ValueError", .type "Exception", .type "BaseException", .type "object"] "ValueError.__new__" = true),
    fun K => decide (PySem.W.nsIn K mainGlobals "PlayError" = some (some (.ref (He.ga K "PlayError")))),
    fun K => decide (PySem.W.keepIn K (.ref (He.ga K "PlayError")) = true),
    fun K => decide (PySem.W.subIn K (.ref (He.ga K "PlayError")) (.type "BaseException") = some true),
    fun K => decide (PySem.W.typeIn K (.ref (He.ga K "PlayError")) = some (.type "type")),
    fun K => decide (PySem.W.hasDictIn K (He.ga K "PlayError") = true),
    fun K => decide (PySem.W.nsIn K mainGlobals "BadBound" = some (some (.ref (He.ga K "BadBound")))),
    fun K => decide (PySem.W.nsIn K mainGlobals "BadCall" = some (some (.ref (He.ga K "BadCall")))),
    fun K => decide (PySem.W.nsIn K mainGlobals "BadPaper" = some (some (.ref (He.ga K "BadPaper")))),
    fun K => decide (PySem.W.nsIn K mainGlobals "BadStep" = some (some (.ref (He.ga K "BadStep")))),
    fun K => decide (PySem.W.nsIn K mainGlobals "BadText" = some (some (.ref (He.ga K "BadText")))),
    fun K => decide (PySem.W.nsIn K mainGlobals "TooLarge" = some (some (.ref (He.ga K "TooLarge")))),
    fun K => decide (PySem.W.findIn K (.ref (He.ga K "BadPlayer")) "__getattribute__" = some (some (.builtin "BaseException.__getattribute__"))),
    fun K => decide (PySem.W.findIn K (.ref (He.ga K "BadPlayer")) "__getattr__" = some none),
    fun K => decide (PySem.W.findIn K (.ref (He.ga K "BadPlayer")) "__class__" = some (some (.builtin "object.__class__"))),
    fun K => decide (PySem.W.mroIn K (He.ga K "BadPlayer") (.type "object") = some true),
    fun K => decide (PySem.W.nsIn K mainGlobals "len" = some none),
    fun K => decide (PySem.W.nsIn K mainGlobals "range" = some none),
    fun K => decide (PySem.W.nsIn K mainGlobals "int" = some none),
    fun K => decide (PySem.W.nsIn K mainGlobals "tuple" = some none),
    fun K => decide (PySem.W.nsIn K mainGlobals "list" = some none),
    fun K => decide (PySem.W.nsIn K mainGlobals "isinstance" = some none),
    fun K => decide (PySem.W.nsIn K mainGlobals "abs" = some none),
    fun K => decide (PySem.W.subIn K (.ref (He.ga K "BadPlayer")) (.ref (He.ga K "PlayError")) = some true),
    fun K => decide (PySem.W.kitOne K (.ref (He.ga K "BadPlayer")) (.ref (He.ga K "BadPlayer")) = some true),
    fun K => decide (PySem.W.kitAny K (.ref (He.ga K "BadPlayer")) [.ref (He.ga K "BadBound"), .ref (He.ga K "BadCall"), .ref (He.ga K "BadPaper"), .ref (He.ga K "BadStep"), .ref (He.ga K "BadText"), .ref (He.ga K "TooLarge")] = some false)]
abbrev R : PySem.W.OpenRow := PySem.W.OpenLaw.row PySem.Challenge.rw_tellsnone_k12_players_that_do_not_fit
def file0 : Str := "/claim/cut.py"
def exs : HdF.Ex := [exs0, exs1]
def fns0 : List HdF.DefF := [
    ⟨("parts_of", none), "parts_of", "parts_of", defArgs s_parts_of, defBody s_parts_of, defScope s_parts_of, [], none⟩,
    ⟨("check_player", none), "check_player", "check_player", defArgs s_check_player, defBody s_check_player, defScope s_check_player, [], none⟩,
    ⟨("check_below", none), "check_below", "check_below", defArgs s_check_below, defBody s_check_below, defScope s_check_below, [], none⟩,
    ⟨("check_ask", none), "check_ask", "check_ask", defArgs s_check_ask, defBody s_check_ask, defScope s_check_ask, [], none⟩,
    ⟨("chance", none), "chance", "chance", defArgs s_chance, defBody s_chance, defScope s_chance, [], none⟩,
    ⟨("Game", some "__init__"), "__init__", "Game.__init__", defArgs s_Game_init, defBody s_Game_init, defScope s_Game_init, [], none⟩,
    ⟨("Game", some "proc"), "proc", "Game.proc", defArgs s_Game_proc, defBody s_Game_proc, defScope s_Game_proc, [], none⟩,
    ⟨("_law_cell", none), "_law_cell", "_law_cell", defArgs s_law_cell, defBody s_law_cell, defScope s_law_cell, [], none⟩,
    ⟨("_law_row", none), "_law_row", "_law_row", defArgs s_law_row, defBody s_law_row, defScope s_law_row, [], none⟩,
    ⟨("_law_side", none), "_law_side", "_law_side", defArgs s_law_side, defBody s_law_side, defScope s_law_side, [], none⟩,
    ⟨("_law_value", none), "_law_value", "_law_value", defArgs s_law_value, defBody s_law_value, defScope s_law_value, [], none⟩,
    ⟨("_law_plain", none), "_law_plain", "_law_plain", defArgs s_law_plain, defBody s_law_plain, defScope s_law_plain, [], none⟩,
    ⟨("_law_block", none), "_law_block", "_law_block", defArgs s_law_block, defBody s_law_block, defScope s_law_block, [], none⟩,
    ⟨("_law_game", none), "_law_game", "_law_game", defArgs s_law_game, defBody s_law_game, defScope s_law_game, [], none⟩,
    ⟨("_law_made", none), "_law_made", "_law_made", defArgs s_law_made, defBody s_law_made, defScope s_law_made, [], none⟩,
    ⟨("_law_player", none), "_law_player", "_law_player", defArgs s_law_player, defBody s_law_player, defScope s_law_player, [], none⟩,
    ⟨("_law_refused", none), "_law_refused", "_law_refused", defArgs s_law_refused, defBody s_law_refused, defScope s_law_refused, [], none⟩,
    ⟨("_law_below", none), "_law_below", "_law_below", defArgs s_law_below, defBody s_law_below, defScope s_law_below, [], none⟩,
    ⟨("_law_twice", none), "_law_twice", "_law_twice", defArgs s_law_twice, defBody s_law_twice, defScope s_law_twice, [], none⟩,
    ⟨("_law_faulty", none), "_law_faulty", "_law_faulty", defArgs s_law_faulty, defBody s_law_faulty, defScope s_law_faulty, [], none⟩,
    ⟨("_law_wide", none), "_law_wide", "_law_wide", defArgs s_law_wide, defBody s_law_wide, defScope s_law_wide, [], none⟩,
    ⟨("law", none), "law", "law", defArgs s_law, defBody s_law, defScope s_law, [], none⟩]
def fns : List HdF.DefF := fns0
def tabs : List He.Tab := []
def names0 : List PySem.Str := ["_wall", "__name__", "PlayError", "BadText", "BadPaper", "BadCall", "BadPlayer", "BadStep", "BadBound", "TooLarge", "CHUNK", "decimals", "Ratio", "VALUES", "added", "subtracted", "multiplied", "divided", "remainder", "smaller", "same_value", "OPERATIONS", "operator_value", "MOST_WAYS", "Way", "value_at", "with_row", "Sizes", "Call", "MOST_KEPT"]
def names1 : List PySem.Str := ["first_state", "by_name", "in_order", "shares", "Memory", "Runner", "first_belief", "add_share", "whole", "behind_answers", "together", "DEEPEST_PLAYER", "MOST_TOSSED", "parts_of", "next_players", "check_player", "check_below", "check_ask", "chance", "chance_from", "ask_chance", "Game", "_law_cell", "_law_is_integer", "_law_row", "_law_less", "_law_plus", "_law_times", "_law_side", "_law_value"]
def names2 : List PySem.Str := ["_law_plain", "_law_block", "_law_game", "_law_made", "_law_player", "_law_calls", "_law_refused", "_law_below", "_law_twice", "_law_faulty", "_law_wide"]
def names : List PySem.Str := names0 ++ names1 ++ names2
abbrev hk : PySem.W.Hook := HdF.hookF 7 file0 exs fns tabs
def ob (s : PySem.W.SharedT) : HdF.AlF := HdF.obsFG 7 file0 exs fns tabs (HandSHeadRun.getT s)
theorem ob_eq (s : PySem.W.SharedT) : ob s = hk.obs s.abs := HdF.obsFG_eq (HandSHeadRun.getT_eq s)
/-! ### the facts -/
theorem facts {l : PySem.W.OpenLaw} {w : World} {K : PySem.W.Frag} {h : Heap} {mg : Str → Option Value} {fa : Addr} (X : K.In h) (G : h.Ns mainGlobals mg) (hfa : mg "law" = some (.ref fa)) (c : HdF.Says file0 exs fns tabs w K) :
    ∃ fd : FuncData, (∀ (s : Shared) (v : Value), BindsTo s fd ⟨[v], []⟩ [("script", v)]) ∧ ∀ base : Heap, K.In base → base.Ns mainGlobals mg → FnOk l.prog w K mg base CX0 60 fa fd ["script"] (spLaw K) := by
  obtain ⟨_, _, _, _, _, _, _, _, _, l_parts_of, c_parts_of, k_parts_of⟩ := c.plain 0 (p := ("parts_of", none)) rfl
  obtain ⟨_, _, _, _, _, _, _, _, _, l_check_player, c_check_player, k_check_player⟩ := c.plain 1 (p := ("check_player", none)) rfl
  obtain ⟨_, _, _, _, _, _, _, _, _, l_check_below, c_check_below, k_check_below⟩ := c.plain 2 (p := ("check_below", none)) rfl
  obtain ⟨_, _, _, _, _, _, _, _, _, l_check_ask, c_check_ask, k_check_ask⟩ := c.plain 3 (p := ("check_ask", none)) rfl
  obtain ⟨_, _, _, _, _, _, _, _, _, l_chance, c_chance, k_chance⟩ := c.plain 4 (p := ("chance", none)) rfl
  obtain ⟨_, _, _, _, _, _, _, _, _, l_Game_init, c_Game_init, k_Game_init⟩ := c.plain 5 (p := ("Game", some "__init__")) rfl
  obtain ⟨_, _, _, _, _, _, _, _, _, l_Game_proc, c_Game_proc, k_Game_proc⟩ := c.plain 6 (p := ("Game", some "proc")) rfl
  obtain ⟨_, _, _, _, _, _, _, _, _, l_law_cell, c_law_cell, k_law_cell⟩ := c.plain 7 (p := ("_law_cell", none)) rfl
  obtain ⟨_, _, _, _, _, _, _, _, _, l_law_row, c_law_row, k_law_row⟩ := c.plain 8 (p := ("_law_row", none)) rfl
  obtain ⟨_, _, _, _, _, _, _, _, _, l_law_side, c_law_side, k_law_side⟩ := c.plain 9 (p := ("_law_side", none)) rfl
  obtain ⟨_, _, _, _, _, _, _, _, _, l_law_value, c_law_value, k_law_value⟩ := c.plain 10 (p := ("_law_value", none)) rfl
  obtain ⟨_, _, _, _, _, _, _, _, _, l_law_plain, c_law_plain, k_law_plain⟩ := c.plain 11 (p := ("_law_plain", none)) rfl
  obtain ⟨_, _, _, _, _, _, _, _, _, l_law_block, c_law_block, k_law_block⟩ := c.plain 12 (p := ("_law_block", none)) rfl
  obtain ⟨_, _, _, _, _, _, _, _, _, l_law_game, c_law_game, k_law_game⟩ := c.plain 13 (p := ("_law_game", none)) rfl
  obtain ⟨_, _, _, _, _, _, _, _, _, l_law_made, c_law_made, k_law_made⟩ := c.plain 14 (p := ("_law_made", none)) rfl
  obtain ⟨_, _, _, _, _, _, _, _, _, l_law_player, c_law_player, k_law_player⟩ := c.plain 15 (p := ("_law_player", none)) rfl
  obtain ⟨_, _, _, _, _, _, _, _, _, l_law_refused, c_law_refused, k_law_refused⟩ := c.plain 16 (p := ("_law_refused", none)) rfl
  obtain ⟨_, _, _, _, _, _, _, _, _, l_law_below, c_law_below, k_law_below⟩ := c.plain 17 (p := ("_law_below", none)) rfl
  obtain ⟨_, _, _, _, _, _, _, _, _, l_law_twice, c_law_twice, k_law_twice⟩ := c.plain 18 (p := ("_law_twice", none)) rfl
  obtain ⟨_, _, _, _, _, _, _, _, _, l_law_faulty, c_law_faulty, k_law_faulty⟩ := c.plain 19 (p := ("_law_faulty", none)) rfl
  obtain ⟨_, _, _, _, _, _, _, _, _, l_law_wide, c_law_wide, k_law_wide⟩ := c.plain 20 (p := ("_law_wide", none)) rfl
  obtain ⟨_, _, _, _, _, _, _, _, _, l_law, c_law, k_law⟩ := c.plain 21 (p := ("law", none)) rfl
  obtain ⟨_, hg_DEEPEST_PLAYER⟩ := HdF.int_ok (show HdF.intB K "DEEPEST_PLAYER" 8 = true from (c.get 0 0 rfl))
  obtain ⟨_, hg_MOST_TOSSED⟩ := HdF.int_ok (show HdF.intB K "MOST_TOSSED" 16 = true from (c.get 0 1 rfl))
  have o_n : PySem.W.specialIn K (.builtin "object.__class__") "__get__" = some (some (.builtin "getset_descriptor.__get__")) := of_decide_eq_true (c.get 0 2 rfl)
  have o_t : PySem.W.takesIn K (.builtin "object.__class__") = some true := of_decide_eq_true (c.get 0 3 rfl)
  have hC_Game : PySem.W.nsIn K mainGlobals "Game" = some (some (.ref (He.ga K "Game"))) := of_decide_eq_true (c.get 0 4 rfl)
  have pg_Game : PySem.W.plainGet K (He.ga K "Game") Str.empty = true := of_decide_eq_true (c.get 0 5 rfl)
  have hd_Game : PySem.W.hasDictIn K (He.ga K "Game") = true := of_decide_eq_true (c.get 0 6 rfl)
  have po_Game : PySem.W.plainOver K (He.ga K "Game") = true := of_decide_eq_true (c.get 0 7 rfl)
  have sa_Game : PySem.W.findIn K (.ref (He.ga K "Game")) "__setattr__" = some (some (.builtin "object.__setattr__")) := of_decide_eq_true (c.get 0 8 rfl)
  have mk_Game : PySem.W.makesIn K (He.ga K "Game") = true := of_decide_eq_true (c.get 0 9 rfl)
  have kc_Game : PySem.W.keepIn K (.ref (He.ga K "Game")) = true := of_decide_eq_true (c.get 0 10 rfl)
  have sf_Game : PySem.W.selfFirst K (He.ga K "Game") = true := of_decide_eq_true (c.get 0 11 rfl)
  have na_Game_variables : PySem.W.findIn K (.ref (He.ga K "Game")) "variables" = some none := of_decide_eq_true (c.get 0 12 rfl)
  have na_Game_tables : PySem.W.findIn K (.ref (He.ga K "Game")) "tables" = some none := of_decide_eq_true (c.get 0 13 rfl)
  have na_Game_lots : PySem.W.findIn K (.ref (He.ga K "Game")) "lots" = some none := of_decide_eq_true (c.get 0 14 rfl)
  have na_Game_procs : PySem.W.findIn K (.ref (He.ga K "Game")) "procs" = some none := of_decide_eq_true (c.get 0 15 rfl)
  have h_parts_of : PySem.W.nsIn K mainGlobals "parts_of" = some (some (.ref (He.ga K "parts_of"))) := of_decide_eq_true (c.get 0 16 rfl)
  have h_check_player : PySem.W.nsIn K mainGlobals "check_player" = some (some (.ref (He.ga K "check_player"))) := of_decide_eq_true (c.get 0 17 rfl)
  have h_check_below : PySem.W.nsIn K mainGlobals "check_below" = some (some (.ref (He.ga K "check_below"))) := of_decide_eq_true (c.get 0 18 rfl)
  have h_check_ask : PySem.W.nsIn K mainGlobals "check_ask" = some (some (.ref (He.ga K "check_ask"))) := of_decide_eq_true (c.get 0 19 rfl)
  have h_chance : PySem.W.nsIn K mainGlobals "chance" = some (some (.ref (He.ga K "chance"))) := of_decide_eq_true (c.get 0 20 rfl)
  have h_Game_init : PySem.W.findIn K (.ref (He.ga K "Game")) "__init__" = some (some (.ref (He.ma K (He.ga K "Game") "__init__"))) := of_decide_eq_true (c.get 0 21 rfl)
  have i_Game_init : PySem.W.isFn K (.ref (He.ma K (He.ga K "Game") "__init__")) = true := of_decide_eq_true (c.get 0 22 rfl)
  have h_Game_proc : PySem.W.findIn K (.ref (He.ga K "Game")) "proc" = some (some (.ref (He.ma K (He.ga K "Game") "proc"))) := of_decide_eq_true (c.get 0 23 rfl)
  have i_Game_proc : PySem.W.isFn K (.ref (He.ma K (He.ga K "Game") "proc")) = true := of_decide_eq_true (c.get 0 24 rfl)
  have h_law_cell : PySem.W.nsIn K mainGlobals "_law_cell" = some (some (.ref (He.ga K "_law_cell"))) := of_decide_eq_true (c.get 0 25 rfl)
  have h_law_row : PySem.W.nsIn K mainGlobals "_law_row" = some (some (.ref (He.ga K "_law_row"))) := of_decide_eq_true (c.get 0 26 rfl)
  have h_law_side : PySem.W.nsIn K mainGlobals "_law_side" = some (some (.ref (He.ga K "_law_side"))) := of_decide_eq_true (c.get 0 27 rfl)
  have h_law_value : PySem.W.nsIn K mainGlobals "_law_value" = some (some (.ref (He.ga K "_law_value"))) := of_decide_eq_true (c.get 0 28 rfl)
  have h_law_plain : PySem.W.nsIn K mainGlobals "_law_plain" = some (some (.ref (He.ga K "_law_plain"))) := of_decide_eq_true (c.get 0 29 rfl)
  have h_law_block : PySem.W.nsIn K mainGlobals "_law_block" = some (some (.ref (He.ga K "_law_block"))) := of_decide_eq_true (c.get 0 30 rfl)
  have h_law_game : PySem.W.nsIn K mainGlobals "_law_game" = some (some (.ref (He.ga K "_law_game"))) := of_decide_eq_true (c.get 0 31 rfl)
  have h_law_made : PySem.W.nsIn K mainGlobals "_law_made" = some (some (.ref (He.ga K "_law_made"))) := of_decide_eq_true (c.get 0 32 rfl)
  have h_law_player : PySem.W.nsIn K mainGlobals "_law_player" = some (some (.ref (He.ga K "_law_player"))) := of_decide_eq_true (c.get 0 33 rfl)
  have h_law_refused : PySem.W.nsIn K mainGlobals "_law_refused" = some (some (.ref (He.ga K "_law_refused"))) := of_decide_eq_true (c.get 0 34 rfl)
  have h_law_below : PySem.W.nsIn K mainGlobals "_law_below" = some (some (.ref (He.ga K "_law_below"))) := of_decide_eq_true (c.get 0 35 rfl)
  have h_law_twice : PySem.W.nsIn K mainGlobals "_law_twice" = some (some (.ref (He.ga K "_law_twice"))) := of_decide_eq_true (c.get 0 36 rfl)
  have h_law_faulty : PySem.W.nsIn K mainGlobals "_law_faulty" = some (some (.ref (He.ga K "_law_faulty"))) := of_decide_eq_true (c.get 0 37 rfl)
  have h_law_wide : PySem.W.nsIn K mainGlobals "_law_wide" = some (some (.ref (He.ga K "_law_wide"))) := of_decide_eq_true (c.get 0 38 rfl)
  have h_law : PySem.W.nsIn K mainGlobals "law" = some (some (.ref (He.ga K "law"))) := of_decide_eq_true (c.get 0 39 rfl)
  have hC_BadPlayer : PySem.W.nsIn K mainGlobals "BadPlayer" = some (some (.ref (He.ga K "BadPlayer"))) := of_decide_eq_true (c.get 1 0 rfl)
  have kc_BadPlayer : PySem.W.keepIn K (.ref (He.ga K "BadPlayer")) = true := of_decide_eq_true (c.get 1 1 rfl)
  have xb_BadPlayer : PySem.W.subIn K (.ref (He.ga K "BadPlayer")) (.type "BaseException") = some true := of_decide_eq_true (c.get 1 2 rfl)
  have xt_BadPlayer : PySem.W.typeIn K (.ref (He.ga K "BadPlayer")) = some (.type "type") := of_decide_eq_true (c.get 1 3 rfl)
  have xd_BadPlayer : PySem.W.hasDictIn K (He.ga K "BadPlayer") = true := of_decide_eq_true (c.get 1 4 rfl)
  have x_BadPlayer : PySem.W.excIn K (He.ga K "BadPlayer") [.type "ValueError", .type "Exception", .type "BaseException", .type "object"] "ValueError.__new__" = true := of_decide_eq_true (c.get 1 5 rfl)
  have hC_PlayError : PySem.W.nsIn K mainGlobals "PlayError" = some (some (.ref (He.ga K "PlayError"))) := of_decide_eq_true (c.get 1 6 rfl)
  have kc_PlayError : PySem.W.keepIn K (.ref (He.ga K "PlayError")) = true := of_decide_eq_true (c.get 1 7 rfl)
  have xb_PlayError : PySem.W.subIn K (.ref (He.ga K "PlayError")) (.type "BaseException") = some true := of_decide_eq_true (c.get 1 8 rfl)
  have xt_PlayError : PySem.W.typeIn K (.ref (He.ga K "PlayError")) = some (.type "type") := of_decide_eq_true (c.get 1 9 rfl)
  have xd_PlayError : PySem.W.hasDictIn K (He.ga K "PlayError") = true := of_decide_eq_true (c.get 1 10 rfl)
  have hC_BadBound : PySem.W.nsIn K mainGlobals "BadBound" = some (some (.ref (He.ga K "BadBound"))) := of_decide_eq_true (c.get 1 11 rfl)
  have hC_BadCall : PySem.W.nsIn K mainGlobals "BadCall" = some (some (.ref (He.ga K "BadCall"))) := of_decide_eq_true (c.get 1 12 rfl)
  have hC_BadPaper : PySem.W.nsIn K mainGlobals "BadPaper" = some (some (.ref (He.ga K "BadPaper"))) := of_decide_eq_true (c.get 1 13 rfl)
  have hC_BadStep : PySem.W.nsIn K mainGlobals "BadStep" = some (some (.ref (He.ga K "BadStep"))) := of_decide_eq_true (c.get 1 14 rfl)
  have hC_BadText : PySem.W.nsIn K mainGlobals "BadText" = some (some (.ref (He.ga K "BadText"))) := of_decide_eq_true (c.get 1 15 rfl)
  have hC_TooLarge : PySem.W.nsIn K mainGlobals "TooLarge" = some (some (.ref (He.ga K "TooLarge"))) := of_decide_eq_true (c.get 1 16 rfl)
  have eg_BadPlayer : PySem.W.findIn K (.ref (He.ga K "BadPlayer")) "__getattribute__" = some (some (.builtin "BaseException.__getattribute__")) := of_decide_eq_true (c.get 1 17 rfl)
  have ek_BadPlayer : PySem.W.findIn K (.ref (He.ga K "BadPlayer")) "__getattr__" = some none := of_decide_eq_true (c.get 1 18 rfl)
  have ea_BadPlayer : PySem.W.findIn K (.ref (He.ga K "BadPlayer")) "__class__" = some (some (.builtin "object.__class__")) := of_decide_eq_true (c.get 1 19 rfl)
  have em_BadPlayer : PySem.W.mroIn K (He.ga K "BadPlayer") (.type "object") = some true := of_decide_eq_true (c.get 1 20 rfl)
  have zn_len : PySem.W.nsIn K mainGlobals "len" = some none := of_decide_eq_true (c.get 1 21 rfl)
  have zn_range : PySem.W.nsIn K mainGlobals "range" = some none := of_decide_eq_true (c.get 1 22 rfl)
  have zn_int : PySem.W.nsIn K mainGlobals "int" = some none := of_decide_eq_true (c.get 1 23 rfl)
  have zn_tuple : PySem.W.nsIn K mainGlobals "tuple" = some none := of_decide_eq_true (c.get 1 24 rfl)
  have zn_list : PySem.W.nsIn K mainGlobals "list" = some none := of_decide_eq_true (c.get 1 25 rfl)
  have zn_isinstance : PySem.W.nsIn K mainGlobals "isinstance" = some none := of_decide_eq_true (c.get 1 26 rfl)
  have zn_abs : PySem.W.nsIn K mainGlobals "abs" = some none := of_decide_eq_true (c.get 1 27 rfl)
  have sub_bp : PySem.W.subIn K (.ref (He.ga K "BadPlayer")) (.ref (He.ga K "PlayError")) = some true := of_decide_eq_true (c.get 1 28 rfl)
  have ki_b : PySem.W.kitOne K (.ref (He.ga K "BadPlayer")) (.ref (He.ga K "BadPlayer")) = some true := of_decide_eq_true (c.get 1 29 rfl)
  have ki_e : PySem.W.kitAny K (.ref (He.ga K "BadPlayer")) [.ref (He.ga K "BadBound"), .ref (He.ga K "BadCall"), .ref (He.ga K "BadPaper"), .ref (He.ga K "BadStep"), .ref (He.ga K "BadText"), .ref (He.ga K "TooLarge")] = some false := of_decide_eq_true (c.get 1 30 rfl)
  exact all_mk X G hfa o_n o_t hC_Game pg_Game hd_Game po_Game sa_Game mk_Game kc_Game sf_Game na_Game_variables na_Game_tables na_Game_lots na_Game_procs h_parts_of l_parts_of c_parts_of k_parts_of h_check_player l_check_player c_check_player k_check_player h_check_below l_check_below c_check_below k_check_below h_check_ask l_check_ask c_check_ask k_check_ask h_chance l_chance c_chance k_chance h_Game_init i_Game_init l_Game_init c_Game_init k_Game_init h_Game_proc i_Game_proc l_Game_proc c_Game_proc k_Game_proc h_law_cell l_law_cell c_law_cell k_law_cell h_law_row l_law_row c_law_row k_law_row h_law_side l_law_side c_law_side k_law_side h_law_value l_law_value c_law_value k_law_value h_law_plain l_law_plain c_law_plain k_law_plain h_law_block l_law_block c_law_block k_law_block h_law_game l_law_game c_law_game k_law_game h_law_made l_law_made c_law_made k_law_made h_law_player l_law_player c_law_player k_law_player h_law_refused l_law_refused c_law_refused k_law_refused h_law_below l_law_below c_law_below k_law_below h_law_twice l_law_twice c_law_twice k_law_twice h_law_faulty l_law_faulty c_law_faulty k_law_faulty h_law_wide l_law_wide c_law_wide k_law_wide h_law l_law c_law k_law hC_BadPlayer kc_BadPlayer xb_BadPlayer xt_BadPlayer xd_BadPlayer x_BadPlayer hC_PlayError kc_PlayError xb_PlayError xt_PlayError xd_PlayError hC_BadBound hC_BadCall hC_BadPaper hC_BadStep hC_BadText hC_TooLarge eg_BadPlayer ek_BadPlayer ea_BadPlayer em_BadPlayer hg_DEEPEST_PLAYER hg_MOST_TOSSED zn_len zn_range zn_int zn_tuple zn_list zn_isinstance zn_abs sub_bp ki_b ki_e
/-! ### the run -/
theorem runF (w : World) : HandSHeadRun.RunEqI R (PySem.W.view R.prog [0, 80]) hk ob 20000 names (w.withFollow "special-get-raises" false) := by
  unfold HandSHeadRun.RunEqI
  kernel_rfl
theorem runT (w : World) : HandSHeadRun.RunEqI R (PySem.W.view R.prog [0, 80]) hk ob 20000 names (w.withFollow "special-get-raises" true) := by
  unfold HandSHeadRun.RunEqI
  kernel_rfl
theorem run (w : World) : HandSHeadRun.RunEqI R (PySem.W.view R.prog [0, 80]) hk ob 20000 names w := PySem.W.byRow2 (P := fun w => HandSHeadRun.RunEqI R (PySem.W.view R.prog [0, 80]) hk ob 20000 names w) "special-get-raises" runF runT w
end Toy
open PySem PySem.W PySem.Calls PyProof.Rows
set_option maxRecDepth 100000 in
set_option maxHeartbeats 0 in
theorem PySem.Challenge.cw_tellsnone_k12_players_that_do_not_fit_holds : PySem.Challenge.rw_tellsnone_k12_players_that_do_not_fit.Holds := by
  w_on; o_law
  refine HandSHeadRun.head_imp (r := OpenLaw.row PySem.Challenge.rw_tellsnone_k12_players_that_do_not_fit) (q := view (OpenLaw.row PySem.Challenge.rw_tellsnone_k12_players_that_do_not_fit).prog [0, 80]) (H := Toy.hk) (ob := Toy.ob) (M := 20000) (loose := Toy.names) (d := HandSHeadRun.topDef (OpenLaw.row PySem.Challenge.rw_tellsnone_k12_players_that_do_not_fit).prog 80) (kwd := []) Toy.ob_eq
    Toy.run (by kernel_rfl) (by kernel_rfl) (by kernel_rfl) (by rfl) (by first | assumption | decide +kernel) (by decide +kernel) ⟨rfl, rfl, rfl, rfl, rfl, by decide +kernel⟩ ?hw ?hc
  case hw => w_witness2
  case hc =>
    refine L2.walk_ofE (l := PySem.Challenge.rw_tellsnone_k12_players_that_do_not_fit) (n := 63) (k := 60) (x := "script") (CX := L2.CX0) rfl (by decide) (by kernel_rfl) ⟨rfl, by decide, by decide⟩ ?F (fun _ _ _ _ z => z)
    intro w mg fa h Y G hmg0
    obtain ⟨K, KX, c⟩ := Y
    have hmg : mg ("law" : PySem.Str) = some (.ref fa) := by
      have e : (HandSHeadRun.topDef (OpenLaw.row PySem.Challenge.rw_tellsnone_k12_players_that_do_not_fit).prog 80).name = ("law" : PySem.Str) := by kernel_rfl
      rw [← e]
      exact hmg0
    obtain ⟨fd, hb, hF⟩ := Toy.facts (l := PySem.Challenge.rw_tellsnone_k12_players_that_do_not_fit) (w := w) KX G hmg c
    exact ⟨K, fd, Toy.spLaw K, KX, hb, fun H a ns hl _ hS => ⟨a, ns, rfl, hS, hl, fun _ => rfl⟩, hF⟩
