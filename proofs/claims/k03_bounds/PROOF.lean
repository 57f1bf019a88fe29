import PyProof.Rows.All
import Wide.All
import OpenK.AllK
import Wide.FinOn
import HandS.ForExc
import HandS.TupAny
import HandS.OwnEq
import HandS.IsInst
import HandS.ExcIs
import HandS.ExcOwn
import HandS.Wide
import HandS.Gcd
import HandS.FStr
import HandS.Defaults
import HandS.SlotsOwn
import KE.KExcSuper
import KE.KSuper
import KE.KExcMake
import HandS.ExcInit
import HandS.Nested
import PyProof.FitsInt
import KE.IntTextLaws
import HandS.ForMost
import HandS.Dict
import HandS.DictComp
import HandS.WrittenGet
import HandS.Walk
import HandS.Zip
import HandS.Star
import HandS.RaiseMore
import HandS.Replace
import HandS.AnyAll
import HandS.TupLen
import PySem.Challenge.RW_tellsnone_k03_bounds_of_a_text
import HandS.ExcField
import HandS.CallSlots
import HandS.WordsExc
set_option Elab.async false
set_option linter.all false
set_option maxRecDepth 100000
set_option maxHeartbeats 2000000
/-! Games as data: expressions, statements, blocks, games; how they stand in the heap. -/
namespace Gm
open PySem L2
/-! ### data that stands keeps standing -/
theorem same_new {H : Hp} {p : Addr} (h : H p = none) (o : HO) : Same H (upd H p o) := fun b u q => by rw [upd_ne (ne_of_none q h)]; exact q
theorem sqT_mono {K : PySem.W.Frag} {H H' : Hp} {a : Addr} {xs : List V} (e : Same H H') (h : SqT K H a xs) : SqT K H' a xs := by
  rcases h with (h | ⟨o, h⟩) | h
  · exact .inl (.inl (e _ _ h))
  · exact .inl (.inr ⟨o, e _ _ h⟩)
  · exact .inr h
mutual
theorem dp_mono {K : PySem.W.Frag} {H H' : Hp} (s : Same H H') : ∀ (d : PyData) (v : V), Dp K H v d → Dp K H' v d
  | .none, _, h => by cases h; exact .non
  | .bool b, _, h => by cases h; exact .bl b
  | .int i, _, h => by cases h; exact .int i
  | .str x, _, h => by cases h; exact .str x
  | .list ds, _, h => by
    cases h with
    | lst hs ha => exact .lst (s.seq hs) (dp_monoAll s ds _ ha)
  | .tuple ds, _, h => by
    cases h with
    | tup hs ha => exact .tup (sqT_mono s hs) (dp_monoAll s ds _ ha)
  | .dict _, _, h => by cases h
theorem dp_monoAll {K : PySem.W.Frag} {H H' : Hp} (s : Same H H') : ∀ (ds : List PyData) (vs : List V), DpAll K H vs ds → DpAll K H' vs ds
  | [], _, h => by cases h; exact .nil
  | d :: ds, _, h => by
    cases h with
    | cons h1 h2 => exact .cons (dp_mono s d _ h1) (dp_monoAll s ds _ h2)
end
section
variable {K : PySem.W.Frag} {H : Hp}
theorem DpAll.len : ∀ {vs : List V} {ds : List PyData}, DpAll K H vs ds → vs.length = ds.length
  | _, _, .nil => rfl
  | _, _, .cons _ t => congrArg Nat.succ (DpAll.len t)
theorem DpAll.app : ∀ {vs ws : List V} {ds es : List PyData}, DpAll K H vs ds → DpAll K H ws es → DpAll K H (vs ++ ws) (ds ++ es)
  | _, _, _, _, .nil, q => q
  | _, _, _, _, .cons h t, q => .cons h (DpAll.app t q)
theorem DpAll.get : ∀ {vs : List V} {ds : List PyData} {i : Nat} {d : PyData}, DpAll K H vs ds → ds[i]? = some d → ∃ v, vs[i]? = some v ∧ Dp K H v d
  | _, _, _, _, .nil, e => by simp at e
  | _, _, 0, _, .cons h _, e => by simp at e; subst e; exact ⟨_, rfl, h⟩
  | _, _, i + 1, _, .cons _ t, e => by
    obtain ⟨v, h1, h2⟩ := DpAll.get (i := i) t (by simpa using e)
    exact ⟨v, by simpa using h1, h2⟩
theorem dp_strs : ∀ xs : List Str, DpAll K H (xs.map V.str) (xs.map PyData.str)
  | [] => .nil
  | x :: xs => .cons (.str x) (dp_strs xs)
/-- a new tuple of data -/
theorem dp_tup {p : Addr} {vs : List V} {ds : List PyData} (hp : H p = none) (h : DpAll K H vs ds) : Dp K (upd H p (.tup vs)) (.ref p) (.tuple ds) := .tup (SqT.of upd_same) (dp_monoAll (same_new hp _) _ _ h)
end
/-! ### rules whose written part is named (within comprehensions) -/
section
variable {X : Cx}
theorem ixlK (K : PySem.W.Frag) (h : X.K = K) : IxR X (rIxL K) := by subst h; exact ix_list
theorem ixtK (K : PySem.W.Frag) (h : X.K = K) : IxR X (rIxT K) := by subst h; exact ix_tup
theorem lenK (K : PySem.W.Frag) (h : X.K = K) : CallR X (.builtin "len") (fun xs H Q => ∃ p ys, xs = [.ref p] ∧ (SqL K H p ys ∨ SqT K H p ys) ∧ Q (.int ys.length) H) := by subst h; exact call_len_seq
theorem inK (K : PySem.W.Frag) (h : X.K = K) : OpR X (compareOp .In) (rIn K false) := by subst h; exact op_in_seq
theorem eqDK (K : PySem.W.Frag) (h : X.K = K) (hu : X.A.units + 64 < cLine) : OpR X (compareOp .Eq) (rEqD K) := by subst h; exact op_eqD hu
theorem neDK (K : PySem.W.Frag) (h : X.K = K) (hu : X.A.units + 64 < cLine) : OpR X (compareOp .NotEq) (rNeD K) := by subst h; exact op_neD hu
theorem slLK (K : PySem.W.Frag) (h : X.K = K) : SlR X (rSlL K) := by subst h; exact sl_list
theorem slTK (K : PySem.W.Frag) (h : X.K = K) : SlR X (rSlA K) := by subst h; exact sl_tupA
end
/-! ### data without lists: it stands as long as the tuples stand -/
mutual
def nol : PyData → Bool
  | .list _ => false
  | .dict _ => false
  | .tuple ds => nolAll ds
  | _ => true
def nolAll : List PyData → Bool
  | [] => true
  | d :: ds => nol d && nolAll ds
end
theorem nolAll_app : ∀ (xs ys : List PyData), nolAll (xs ++ ys) = (nolAll xs && nolAll ys)
  | [], ys => by show nolAll ys = (nolAll [] && nolAll ys); unfold nolAll; rw [Bool.true_and]; all_goals rfl
  | x :: xs, ys => by show (nol x && nolAll (xs ++ ys)) = ((nol x && nolAll xs) && nolAll ys); rw [nolAll_app xs ys, Bool.and_assoc]
theorem nolAll_strs : ∀ xs : List Str, nolAll (xs.map PyData.str) = true
  | [] => rfl
  | x :: xs => by show (nol (.str x) && nolAll (xs.map PyData.str)) = true; rw [nolAll_strs xs]; rfl
/-- tuples and what is locked stand -/
def Tups (H H' : Hp) : Prop := ∀ b o, H b = some o → ((∃ xs, o = .tup xs) ∨ ∃ ob u, o = .frz ob u) → H' b = some o
theorem Tups.of {H H' : Hp} (s : Same H H') : Tups H H' := fun b o e _ => s b o e
theorem Tups.refl (H : Hp) : Tups H H := fun _ _ e _ => e
theorem Tups.trans {H H1 H2 : Hp} (a : Tups H H1) (b : Tups H1 H2) : Tups H H2 := fun c o e k => b c o (a c o e k) k
theorem Tups.lst {H : Hp} {l : Addr} {xs : List V} {o : HO} (h : H l = some (.lst xs)) : Tups H (upd H l o) := fun b u e k => by
  rw [upd_ne]
  · exact e
  · intro z
    subst z
    rw [h] at e
    cases e
    rcases k with ⟨_, z⟩ | ⟨_, _, z⟩ <;> cases z
theorem sqT_tups {K : PySem.W.Frag} {H H' : Hp} {a : Addr} {xs : List V} (e : Tups H H') (h : SqT K H a xs) : SqT K H' a xs := by
  rcases h with (h | ⟨o, h⟩) | h
  · exact .inl (.inl (e _ _ h (.inl ⟨_, rfl⟩)))
  · exact .inl (.inr ⟨o, e _ _ h (.inr ⟨_, _, rfl⟩)⟩)
  · exact .inr h
mutual
theorem dp_tups {K : PySem.W.Frag} {H H' : Hp} (s : Tups H H') : ∀ (d : PyData) (v : V), nol d = true → Dp K H v d → Dp K H' v d
  | .none, _, _, h => by cases h; exact .non
  | .bool b, _, _, h => by cases h; exact .bl b
  | .int i, _, _, h => by cases h; exact .int i
  | .str x, _, _, h => by cases h; exact .str x
  | .list ds, _, n, h => by unfold nol at n; cases n
  | .tuple ds, _, n, h => by
    unfold nol at n
    cases h with
    | tup hs ha => exact .tup (sqT_tups s hs) (dp_tupsAll s ds _ n ha)
  | .dict _, _, _, h => by cases h
theorem dp_tupsAll {K : PySem.W.Frag} {H H' : Hp} (s : Tups H H') : ∀ (ds : List PyData) (vs : List V), nolAll ds = true → DpAll K H vs ds → DpAll K H' vs ds
  | [], _, _, h => by cases h; exact .nil
  | d :: ds, _, n, h => by
    unfold nolAll at n
    rw [Bool.and_eq_true] at n
    cases h with
    | cons h1 h2 => exact .cons (dp_tups s d _ n.1 h1) (dp_tupsAll s ds _ n.2 h2)
end
/-! ### expressions and statements -/
inductive Ex where
  | num (n : Int) | loc (x : Str) | var (x : Str) | has (t : Str) (e : Ex) | cell (t : Str) (e : Ex) | op (o : Str) (a b : Ex)
mutual
inductive Stm where
  | set (x : Str) (e : Ex) | lt (l : Str) (e : Ex) | draw (l : Str) (n : Int) | put (t : Str) (e f : Ex) | lot (l o : Str) (e : Ex) | ask (l p : Str) (e : Ex) | ite (e : Ex) (a b : Blk) | bad | after (a : Blk)
inductive Blk where
  | nil | cons (s : Stm) (r : Blk)
end
def Ex.d : Ex → PyData
  | .num n => .tuple [.str "number", .int n]
  | .loc x => .tuple [.str "local", .str x]
  | .var x => .tuple [.str "variable", .str x]
  | .has t e => .tuple [.str "has", .str t, e.d]
  | .cell t e => .tuple [.str "cell", .str t, e.d]
  | .op o a b => .tuple [.str o, a.d, b.d]
mutual
def Stm.d : Stm → PyData
  | .set x e => .tuple [.str "set", .str x, e.d]
  | .lt l e => .tuple [.str "let", .str l, e.d]
  | .draw l n => .tuple [.str "draw", .str l, .int n]
  | .put t e f => .tuple [.str "put", .str t, e.d, f.d]
  | .lot l o e => .tuple [.str "lot", .str l, .str o, e.d]
  | .ask l p e => .tuple [.str "ask", .str l, .str p, e.d]
  | .ite e a b => .tuple [.str "if", e.d, .tuple a.ds, .tuple b.ds]
  | .bad => .tuple [.str "bad"]
  | .after a => .tuple [.str "after", .tuple a.ds]
def Blk.ds : Blk → List PyData
  | .nil => []
  | .cons s r => s.d :: r.ds
end
def Blk.d (b : Blk) : PyData := .tuple b.ds
theorem Ex.nol : ∀ e : Ex, nol e.d = true
  | .num n => rfl
  | .loc x => rfl
  | .var x => rfl
  | .has t e => by show (Gm.nol (.str "has") && (Gm.nol (.str t) && (Gm.nol e.d && nolAll []))) = true; rw [Ex.nol e]; rfl
  | .cell t e => by show (Gm.nol (.str "cell") && (Gm.nol (.str t) && (Gm.nol e.d && nolAll []))) = true; rw [Ex.nol e]; rfl
  | .op o a b => by show (Gm.nol (.str o) && (Gm.nol a.d && (Gm.nol b.d && nolAll []))) = true; rw [Ex.nol a, Ex.nol b]; rfl
mutual
theorem Stm.nol : ∀ x : Stm, nol x.d = true
  | .set x e => by unfold Stm.d; show (Gm.nol (.str "set") && (Gm.nol (.str x) && (Gm.nol e.d && nolAll []))) = true; rw [Ex.nol e]; rfl
  | .lt x e => by unfold Stm.d; show (Gm.nol (.str "let") && (Gm.nol (.str x) && (Gm.nol e.d && nolAll []))) = true; rw [Ex.nol e]; rfl
  | .draw l n => by unfold Stm.d; rfl
  | .put t e f => by unfold Stm.d; show (Gm.nol (.str "put") && (Gm.nol (.str t) && (Gm.nol e.d && (Gm.nol f.d && nolAll [])))) = true; rw [Ex.nol e, Ex.nol f]; rfl
  | .lot l o e => by unfold Stm.d; show (Gm.nol (.str "lot") && (Gm.nol (.str l) && (Gm.nol (.str o) && (Gm.nol e.d && nolAll [])))) = true; rw [Ex.nol e]; rfl
  | .ask l p e => by unfold Stm.d; show (Gm.nol (.str "ask") && (Gm.nol (.str l) && (Gm.nol (.str p) && (Gm.nol e.d && nolAll [])))) = true; rw [Ex.nol e]; rfl
  | .ite e a b => by unfold Stm.d; show (Gm.nol (.str "if") && (Gm.nol e.d && (nolAll a.ds && (nolAll b.ds && nolAll [])))) = true; rw [Ex.nol e, Blk.nol a, Blk.nol b]; rfl
  | .bad => by unfold Stm.d; rfl
  | .after a => by unfold Stm.d; show (Gm.nol (.str "after") && (nolAll a.ds && nolAll [])) = true; rw [Blk.nol a]; rfl
theorem Blk.nol : ∀ b : Blk, nolAll b.ds = true
  | .nil => by unfold Blk.ds; rfl
  | .cons s r => by unfold Blk.ds; show (Gm.nol s.d && nolAll r.ds) = true; rw [Stm.nol s, Blk.nol r]; rfl
end
def Blk.of : List Stm → Blk
  | [] => .nil
  | s :: r => .cons s (Blk.of r)
def Blk.app : Blk → Blk → Blk
  | .nil, c => c
  | .cons s r, c => .cons s (r.app c)
theorem Blk.ds_app : ∀ (b c : Blk), (b.app c).ds = b.ds ++ c.ds
  | .nil, c => by rw [Blk.app, Blk.ds]; rfl
  | .cons s r, c => by rw [Blk.app, Blk.ds, Blk.ds, Blk.ds_app r c]; rfl
def Ex.dep : Ex → Nat
  | .num _ => 1
  | .loc _ => 1
  | .var _ => 1
  | .has _ e => e.dep + 1
  | .cell _ e => e.dep + 1
  | .op _ a b => max a.dep b.dep + 1
/-! the depth of ifs and afters, 0 without -/
mutual
def Stm.dep : Stm → Nat
  | .ite _ a b => max a.dep b.dep + 1
  | .after a => a.dep + 1
  | _ => 0
def Blk.dep : Blk → Nat
  | .nil => 0
  | .cons s r => max s.dep r.dep
end
def ops : List Str := ["+", "-", "*", "/", "mod", "<", "="]
/-- the names in scope -/
structure Sc where
  locs : List Str
  vars : List Str
  tabs : List Str
  lots : List Str
  asks : List Str
/-- an expression over the names of a scope, at most k deep -/
def Ex.Ok (s : Sc) : Nat → Ex → Prop
  | 0, _ => False
  | _ + 1, .num n => 0 ≤ n ∧ n ≤ 65535
  | _ + 1, .loc x => x ∈ s.locs
  | _ + 1, .var x => x ∈ s.vars
  | k + 1, .has t e => t ∈ s.tabs ∧ e.Ok s k
  | k + 1, .cell t e => t ∈ s.tabs ∧ e.Ok s k
  | k + 1, .op o a b => o ∈ ops ∧ a.Ok s k ∧ b.Ok s k
theorem Ex.Ok.mono {s : Sc} : ∀ {k j : Nat} {e : Ex}, e.Ok s k → k ≤ j → e.Ok s j
  | 0, _, _, h, _ => h.elim
  | _ + 1, 0, _, _, hj => absurd hj (by omega)
  | _ + 1, _ + 1, .num _, h, _ => h
  | _ + 1, _ + 1, .loc _, h, _ => h
  | _ + 1, _ + 1, .var _, h, _ => h
  | k + 1, j + 1, .has _ _, h, hj => ⟨h.1, h.2.mono (by omega)⟩
  | k + 1, j + 1, .cell _ _, h, hj => ⟨h.1, h.2.mono (by omega)⟩
  | k + 1, j + 1, .op _ _ _, h, hj => ⟨h.1, h.2.1.mono (by omega), h.2.2.mono (by omega)⟩
/-! a statement over a scope: expressions at most k deep, ifs and afters at most d deep -/
mutual
def Stm.Ok (s : Sc) (k : Nat) : Nat → Stm → Prop
  | _, .set x e => x ∈ s.vars ∧ e.Ok s k
  | _, .lt l e => l ∈ s.locs ∧ e.Ok s k
  | _, .draw l n => l ∈ s.locs ∧ 1 ≤ n ∧ n ≤ 64
  | _, .put t e f => t ∈ s.tabs ∧ e.Ok s k ∧ f.Ok s k
  | _, .lot l o e => l ∈ s.locs ∧ o ∈ s.lots ∧ e.Ok s k
  | _, .ask l p e => l ∈ s.locs ∧ p ∈ s.asks ∧ e.Ok s k
  | 0, .ite _ _ _ => False
  | d + 1, .ite e a b => e.Ok s k ∧ a.Ok s k d ∧ b.Ok s k d
  | _, .bad => True
  | 0, .after _ => False
  | d + 1, .after a => a.Ok s k d
def Blk.Ok (s : Sc) (k : Nat) : Nat → Blk → Prop
  | _, .nil => True
  | d, .cons x r => x.Ok s k d ∧ r.Ok s k d
end
def Blk.len : Blk → Nat
  | .nil => 0
  | .cons _ r => r.len + 1
theorem Blk.len_ds : ∀ b : Blk, b.ds.length = b.len
  | .nil => by rw [Blk.ds]; rfl
  | .cons s r => by rw [Blk.ds, Blk.len, List.length_cons, Blk.len_ds r]
theorem Blk.len_app : ∀ (b c : Blk), (b.app c).len = b.len + c.len
  | .nil, c => by rw [Blk.app, Blk.len, Nat.zero_add]
  | .cons s r, c => by rw [Blk.app, Blk.len, Blk.len, Blk.len_app r c]; omega
theorem Blk.ok_app {s : Sc} {k d : Nat} : ∀ {b c : Blk}, b.Ok s k d → c.Ok s k d → (b.app c).Ok s k d
  | .nil, c, _, h => by rw [Blk.app]; exact h
  | .cons x r, c, h1, h2 => by
    rw [Blk.app]
    unfold Blk.Ok at h1 ⊢
    exact ⟨h1.1, Blk.ok_app h1.2 h2⟩
/-! ### picks -/
theorem pick_mem {xs : List Str} {r : Int} (h : xs ≠ []) : ∃ x ∈ xs, atI (xs.map V.str) (r % (((xs.map V.str).length : Nat) : Int)) = some (.str x) := by
  have hl : 0 < xs.length := List.length_pos_iff.mpr h
  rw [List.length_map]
  have h0 := Int.emod_nonneg r (by omega : (xs.length : Int) ≠ 0)
  have h1 := Int.emod_lt_of_pos r (by omega : (0 : Int) < xs.length)
  have hk : (r % (xs.length : Int)).toNat < xs.length := by omega
  refine ⟨xs[(r % (xs.length : Int)).toNat], List.getElem_mem hk, ?_⟩
  exact at_of (j := (r % (xs.length : Int)).toNat) (by omega) (by rw [List.getElem?_map, List.getElem?_eq_getElem hk] <;> rfl)
theorem len_pos {xs : List Str} (h : xs ≠ []) : (0 : Int) < (((xs.map V.str).length : Nat) : Int) := by
  rw [List.length_map]
  have := List.length_pos_iff.mpr h
  omega
/-- an item of a written display, whatever the rest -/
theorem pick_disp {vs : List V} {r : Int} {n : Nat} (hn : vs.length = n) (h : 0 < n) : ∃ x ∈ vs, atI vs (r % (n : Int)) = some x := by
  subst hn
  have h0 := Int.emod_nonneg r (by omega : (vs.length : Int) ≠ 0)
  have h1 := Int.emod_lt_of_pos r (by omega : (0 : Int) < vs.length)
  have hk : (r % (vs.length : Int)).toNat < vs.length := by omega
  exact ⟨vs[(r % (vs.length : Int)).toNat], List.getElem_mem hk, at_of (j := (r % (vs.length : Int)).toNat) (by omega) (List.getElem?_eq_getElem hk)⟩
theorem pick_op {r : Int} : ∃ o ∈ ops, atI ([.str "+", .str "-", .str "*", .str "/", .str "mod", .str "<", .str "="] : List V) (r % 7) = some (.str o) := by
  obtain ⟨x, hx, e⟩ := pick_mem (xs := ops) (r := r) (by decide)
  exact ⟨x, hx, e⟩
theorem pick_two {a b : V} {r : Int} : atI ([a, b] : List V) (r % 2) = some a ∨ atI ([a, b] : List V) (r % 2) = some b := by
  have h0 := Int.emod_nonneg r (by decide : (2 : Int) ≠ 0)
  have h1 := Int.emod_lt_of_pos r (by decide : (0 : Int) < 2)
  have : r % 2 = 0 ∨ r % 2 = 1 := by omega
  rcases this with e | e
  · rw [e]; exact .inl rfl
  · rw [e]; exact .inr rfl
theorem and_if {c A B T1 : Prop} [Decidable c] (hB : B) (hT : c → B → T1) : if c then T1 else (if false = true then A else B) := by
  by_cases h : c
  · rw [if_pos h]; exact hT h hB
  · rw [if_neg h, if_neg Bool.false_ne_true]; exact hB
theorem ne_of_len {xs : List Str} (h : decide ((0 : Int) < (((xs.map V.str).length : Nat) : Int)) = true) : xs ≠ [] := by
  intro e
  subst e
  exact absurd (of_decide_eq_true h) (by decide)
/-- an if without an else: what holds behind it, both ways -/
theorem if_rest {b A : Prop} [Decidable b] {D : Ends} {σ : L2.St} {H : Hp} (I : L2.St → Hp → Prop) (rest : ∀ σ H, I σ H → D.nx σ H) (ht : b → (∀ σ H, I σ H → D.nx σ H) → A) (he : ¬ b → I σ H) : if b then A else tNext D σ H := by
  by_cases h : b
  · rw [if_pos h]; exact ht h rest
  · rw [if_neg h]; exact rest σ H (he h)
theorem Blk.ok_nil {s : Sc} {k d : Nat} : Blk.nil.Ok s k d := by unfold Blk.Ok; trivial
theorem Blk.ok_cons {s : Sc} {k d : Nat} {x : Stm} {r : Blk} (h : x.Ok s k d) (hr : r.Ok s k d) : (Blk.cons x r).Ok s k d := by unfold Blk.Ok; exact ⟨h, hr⟩
theorem Stm.ok_ite {s : Sc} {k d : Nat} {e : Ex} {a b : Blk} (h : e.Ok s k) (ha : a.Ok s k d) (hb : b.Ok s k d) : (Stm.ite e a b).Ok s k (d + 1) := by unfold Stm.Ok; exact ⟨h, ha, hb⟩
theorem Stm.ok_after {s : Sc} {k d : Nat} {a : Blk} (ha : a.Ok s k d) : (Stm.after a).Ok s k (d + 1) := by unfold Stm.Ok; exact ha
theorem Stm.ok_bad {s : Sc} {k d : Nat} : Stm.bad.Ok s k d := by cases d <;> (unfold Stm.Ok; trivial)
mutual
theorem Stm.ok_mono {s : Sc} {k : Nat} : ∀ {d e : Nat} {x : Stm}, x.Ok s k d → d ≤ e → x.Ok s k e
  | d, e, .set _ _, h, _ => by unfold Stm.Ok at h ⊢; exact h
  | d, e, .lt _ _, h, _ => by unfold Stm.Ok at h ⊢; exact h
  | d, e, .draw _ _, h, _ => by unfold Stm.Ok at h ⊢; exact h
  | d, e, .put _ _ _, h, _ => by unfold Stm.Ok at h ⊢; exact h
  | d, e, .lot _ _ _, h, _ => by unfold Stm.Ok at h ⊢; exact h
  | d, e, .ask _ _ _, h, _ => by unfold Stm.Ok at h ⊢; exact h
  | d, e, .bad, _, _ => Stm.ok_bad
  | 0, e, .ite _ _ _, h, _ => by unfold Stm.Ok at h; exact h.elim
  | d + 1, 0, .ite _ _ _, h, he => absurd he (by omega)
  | d + 1, e + 1, .ite _ _ _, h, he => by unfold Stm.Ok at h ⊢; exact ⟨h.1, Blk.ok_mono h.2.1 (by omega), Blk.ok_mono h.2.2 (by omega)⟩
  | 0, e, .after _, h, _ => by unfold Stm.Ok at h; exact h.elim
  | d + 1, 0, .after _, h, he => absurd he (by omega)
  | d + 1, e + 1, .after _, h, he => by unfold Stm.Ok at h ⊢; exact Blk.ok_mono h (by omega)
theorem Blk.ok_mono {s : Sc} {k : Nat} : ∀ {d e : Nat} {b : Blk}, b.Ok s k d → d ≤ e → b.Ok s k e
  | d, e, .nil, _, _ => Blk.ok_nil
  | d, e, .cons x r, h, he => by unfold Blk.Ok at h ⊢; exact ⟨Stm.ok_mono h.1 he, Blk.ok_mono h.2 he⟩
end
/-! ### a list of data that grows -/
structure Acc (K : PySem.W.Frag) (H0 H : Hp) (l : Addr) (vs : List V) (ds : List PyData) : Prop where
  s : Same H0 H
  f : H0 l = none
  l : H l = some (.lst vs)
  d : DpAll K H vs ds
  n : nolAll ds = true
section
variable {K : PySem.W.Frag} {H0 H H' : Hp} {l : Addr} {vs : List V} {ds : List PyData} {v : V} {d : PyData}
theorem Acc.start (h : H0 l = none) : Acc K H0 (upd H0 l (.lst [])) l [] [] := ⟨same_new h _, h, upd_same, .nil, rfl⟩
theorem Acc.grow (a : Acc K H0 H l vs ds) (e : Same H H') : Acc K H0 H' l vs ds := ⟨a.s.trans e, a.f, e _ _ a.l, dp_monoAll e _ _ a.d, a.n⟩
theorem Acc.add (a : Acc K H0 H l vs ds) (hd : Dp K H v d) (hn : nol d = true) : Acc K H0 (upd H l (.lst (vs ++ [v]))) l (vs ++ [v]) (ds ++ [d]) := by
  have tp : Tups H (upd H l (.lst (vs ++ [v]))) := Tups.lst a.l
  refine ⟨fun b o e => by rw [upd_ne (ne_of_none e a.f)]; exact a.s _ _ e, a.f, upd_same, DpAll.app (dp_tupsAll tp _ _ a.n a.d) (.cons (dp_tups tp _ _ hn hd) .nil), ?_⟩
  rw [nolAll_app, a.n]
  show (true && (nol d && nolAll [])) = true
  rw [hn]
  rfl
theorem Acc.len (a : Acc K H0 H l vs ds) : vs.length = ds.length := DpAll.len a.d
end
/-! ### a slice of a tuple, whichever it is -/
def rSlB (K : PySem.W.Frag) : V → Option Int → Option Int → Hp → VK → Prop := fun x lo hi H Q => ∃ a xs, x = .ref a ∧ SqT K H a xs ∧ ∀ p H', Same H H' → SqT K H' p (cutV xs lo hi) → Q (.ref p) H'
theorem slTB {X : Cx} (K : PySem.W.Frag) (h : X.K = K) : SlR X (rSlB K) := by
  subst h
  intro pins s σ H x v vl vu lo hi sl Q I rx hs pl pu h
  obtain ⟨a, xs, rfl, hx, q⟩ := h
  refine sl_tupA pins s σ H _ v vl vu lo hi sl Q I rx hs pl pu ⟨a, xs, rfl, hx, fun w => q a H (Same.refl _) ?_, fun _ p hp => q p _ (same_new hp _) (SqT.of upd_same)⟩
  have e : cutV xs lo hi = xs := by
    unfold cutV
    rw [w.1, w.2, List.drop_zero, Nat.sub_zero, List.take_length]
  rw [e]
  exact hx
theorem cut3 {r : Int} (h0 : 0 ≤ r) (h1 : r < 2) : cutV [.str "g", .str "a", .str "b"] none (some (2 + r)) = ([("g" : Str), "a"]).map V.str ∨ cutV [.str "g", .str "a", .str "b"] none (some (2 + r)) = ([("g" : Str), "a", "b"]).map V.str := by
  have : r = 0 ∨ r = 1 := by omega
  rcases this with rfl | rfl
  · exact .inl rfl
  · exact .inr rfl
theorem take_more {α : Type} : ∀ {l : List α} {i : Nat} {x : α}, l[i]? = some x → l.take (i + 1) = l.take i ++ [x]
  | [], i, x, h => by simp at h
  | a :: l, 0, x, h => by
    have e : a = x := Option.some.inj h
    subst e
    rfl
  | a :: l, i + 1, x, h => by
    have ih := take_more (l := l) (i := i) (x := x) h
    show a :: l.take (i + 1) = a :: l.take i ++ [x]
    rw [ih]
    rfl
theorem str_at {xs : List Str} {i : Nat} (h : i < (((xs.map V.str).length : Nat) : Int).toNat) : ∃ x, xs[i]? = some x ∧ atI (xs.map V.str) (0 + (i : Int)) = some (.str x) := by
  rw [List.length_map] at h
  have hi : i < xs.length := by omega
  exact ⟨xs[i], List.getElem?_eq_getElem hi, at_of (j := i) (by omega) (by rw [List.getElem?_map, List.getElem?_eq_getElem hi] <;> rfl)⟩
/-! ### games -/
structure Pr where
  name : Str
  size : Int
  ans : Int
  locs : List Str
  block : Blk
  res : Ex
structure Ga where
  vars : List (Str × Int × Int)
  tabs : List (Str × Int × Int)
  lots : List (Str × Int × Int)
  procs : List Pr
def trip (t : Str × Int × Int) : PyData := .tuple [.str t.1, .int t.2.1, .int t.2.2]
def strD (xs : List Str) : PyData := .tuple (xs.map PyData.str)
def Pr.d (p : Pr) : PyData := .tuple [.str p.name, .int p.size, .int p.ans, strD p.locs, p.block.d, p.res.d]
def trips (ts : List (Str × Int × Int)) : PyData := .tuple (ts.map trip)
def Ga.d (g : Ga) : PyData := .tuple [trips g.vars, trips g.tabs, trips g.lots, .tuple (g.procs.map Pr.d)]
theorem nol_trip (t : Str × Int × Int) : nol (trip t) = true := rfl
theorem nolAll_trips : ∀ ts : List (Str × Int × Int), nolAll (ts.map trip) = true
  | [] => rfl
  | t :: ts => by show (nol (trip t) && nolAll (ts.map trip)) = true; rw [nolAll_trips ts]; rfl
theorem Pr.nol (p : Pr) : nol p.d = true := by
  show (Gm.nol (.str p.name) && (Gm.nol (.int p.size) && (Gm.nol (.int p.ans) && (nolAll (p.locs.map PyData.str) && (nolAll p.block.ds && (Gm.nol p.res.d && nolAll [])))))) = true
  rw [nolAll_strs, Blk.nol, Ex.nol]
  rfl
theorem nolAll_procs : ∀ ps : List Pr, nolAll (ps.map Pr.d) = true
  | [] => rfl
  | p :: ps => by show (nol p.d && nolAll (ps.map Pr.d)) = true; rw [nolAll_procs ps, Pr.nol]; rfl
theorem Ga.nol (g : Ga) : nol g.d = true := by
  show (nolAll (g.vars.map trip) && (nolAll (g.tabs.map trip) && (nolAll (g.lots.map trip) && (nolAll (g.procs.map Pr.d) && nolAll [])))) = true
  rw [nolAll_trips, nolAll_trips, nolAll_trips, nolAll_procs]
  rfl
def Ga.sc (g : Ga) (locs asks : List Str) : Sc := ⟨locs, g.vars.map (·.1), g.tabs.map (·.1), g.lots.map (·.1), asks⟩
/-! ### the games that the laws draw -/
structure PrOk (g : Ga) (p : Pr) : Prop where
  size : 1 ≤ p.size ∧ p.size ≤ 3
  ans : 2 ≤ p.ans ∧ p.ans ≤ 4
  locs : p.locs = (["g", "a"] : List Str) ∨ p.locs = (["g", "a", "b"] : List Str)
  block : p.block.Ok (g.sc p.locs []) 3 2
  len : 1 ≤ p.block.len ∧ p.block.len ≤ 4
  res : p.res.Ok (g.sc p.locs []) 3
structure GaOk (g : Ga) : Prop where
  vars : g.vars.map (·.1) = ([] : List Str) ∨ g.vars.map (·.1) = (["x"] : List Str) ∨ g.vars.map (·.1) = (["x", "y"] : List Str)
  var : ∀ v ∈ g.vars, (v.2.1 = 2 ∨ v.2.1 = 3 ∨ v.2.1 = 65535) ∧ (v.2.2 = 0 ∨ v.2.2 = 1)
  tabs : g.tabs.map (·.1) = ([] : List Str) ∨ g.tabs.map (·.1) = (["t"] : List Str) ∨ g.tabs.map (·.1) = (["t", "m"] : List Str)
  tab : ∀ v ∈ g.tabs, (v.2.1 = 2 ∨ v.2.1 = 3) ∧ (v.2.2 = 2 ∨ v.2.2 = 3)
  lots : g.lots.map (·.1) = ([] : List Str) ∨ g.lots.map (·.1) = (["o"] : List Str) ∨ g.lots.map (·.1) = (["o", "k"] : List Str)
  lot : ∀ v ∈ g.lots, (v.2.1 = 2 ∨ v.2.1 = 3) ∧ v.2.2 = 2
  procs : g.procs.map (·.name) = (["p"] : List Str) ∨ g.procs.map (·.name) = (["p", "r"] : List Str)
  proc : ∀ p ∈ g.procs, PrOk g p
/-! ### more picks -/
theorem dig_at {ds : List Int} {i : Int} (h0 : 0 ≤ i) (h1 : i < (ds.length : Int)) : ∃ d ∈ ds, atI (ds.map V.int) i = some (.int d) := by
  have hk : i.toNat < ds.length := by omega
  exact ⟨ds[i.toNat], List.getElem_mem hk, at_of (j := i.toNat) (by omega) (by rw [List.getElem?_map, List.getElem?_eq_getElem hk] <;> rfl)⟩
theorem cut2 {a b : Str} {j : Int} (h0 : 0 ≤ j) (h1 : j ≤ 2) : cutV ([V.str a, V.str b]) none (some j) = (([a, b] : List Str).take j.toNat).map V.str := by
  have : j = 0 ∨ j = 1 ∨ j = 2 := by omega
  rcases this with rfl | rfl | rfl <;> rfl
theorem take2 {a b : Str} (n : Nat) (h : n ≤ 2) : ([a, b] : List Str).take n = [] ∨ ([a, b] : List Str).take n = [a] ∨ ([a, b] : List Str).take n = [a, b] := by
  have : n = 0 ∨ n = 1 ∨ n = 2 := by omega
  rcases this with rfl | rfl | rfl
  · exact .inl rfl
  · exact .inr (.inl rfl)
  · exact .inr (.inr rfl)
end Gm
set_option Elab.async false
set_option linter.all false
set_option maxRecDepth 100000
set_option maxHeartbeats 2000000
/-! Rules of my own over the hand layer: operators, ==, str of own instances; a call that makes an instance within a try; isinstance of a held error with several classes. -/
namespace Mine
open PySem PySem.Spec PyProof.Rows L2
section
variable {X : Cx} {CX : CXT} {C f : Addr} {fd : FuncData} {ps : List Str} {sp : Sp} {E : XK} {n : Nat}

/-- a binary operator of two instances of one class -/
def rOwn (C : Addr) (sp : Sp) (E : XK) : R2 := fun x y H Q => ∃ a b dx dy fs gs, x = .ref a ∧ y = .ref b ∧ H a = some (.ins C dx fs) ∧ H b = some (.ins C dy gs) ∧ sp [.ref a, .ref b] H Q E
theorem op_own {op : Operator} (F : FnOk X.prog X.w X.K X.mg X.base CX n f fd ps sp) (hr : Room n X.A) (hb : Binds X.K fd ps []) (hx : Passes CX X E)
    (hc : PySem.W.selfFirst X.K C = true) (hs : PySem.W.findIn X.K (.ref C) (PySem.dunder op.info.2) = some (some (.ref f))) (hf : PySem.W.isFn X.K (.ref f) = true) : OpR X (binaryOp op) (rOwn C sp E) := by
  intro pins s σ H x y v u Q I rx ry h
  obtain ⟨a, b, dx, dy, fs, gs, rfl, rfl, ha, hb', q⟩ := h
  cases rx
  cases ry
  obtain ⟨mA, J, _⟩ := ins_get I.hok ha
  obtain ⟨mB, J', _⟩ := ins_get I.hok hb'
  obtain ⟨od, J, _⟩ := J.look
  obtain ⟨od', J', _⟩ := J'.look
  obtain ⟨m, hF⟩ := I.fr
  refine PySem.W.binop_K hF I.ok.mod.kin J J'.type hc hs hf ?_
  have r2 : Vals [V.ref a, V.ref b] [Value.ref a, Value.ref b] := .cons rfl (.cons rfl .nil)
  refine wpAny_mono (run_fn (dvs := []) (ds := []) F hr hb .nil hx I r2 (by simpa using q)) (fun v s' hv => ?_) fun _ _ z => z
  obtain ⟨z, H', I', rz, q'⟩ := hv
  exact SlX.cmpback rz ⟨z, H', I', rz, q'⟩

/-- == of two instances of one class with an own __eq__ -/
theorem op_ownEq (F : FnOk X.prog X.w X.K X.mg X.base CX n f fd ps sp) (hr : Room n X.A) (hb : Binds X.K fd ps []) (hx : Passes CX X E)
    (hs : PySem.W.findIn X.K (.ref C) "__eq__" = some (some (.ref f))) (hf : PySem.W.isFn X.K (.ref f) = true) : OpR X (compareOp .Eq) (rOwn C sp E) := by
  intro pins s σ H x y v u Q I rx ry h
  obtain ⟨a, b, dx, dy, fs, gs, rfl, rfl, ha, hb', q⟩ := h
  cases rx
  cases ry
  obtain ⟨mA, J, _⟩ := ins_get I.hok ha
  obtain ⟨mB, J', _⟩ := ins_get I.hok hb'
  obtain ⟨od, J, _⟩ := J.look
  obtain ⟨od', J', _⟩ := J'.look
  obtain ⟨m, hF⟩ := I.fr
  show wpAny (model X.prog X.w) X.A (richCompare .Eq _ _) (EP X pins σ Q) X.xe s
  refine PySem.W.cmp_K (op := .Eq) (tb := .ref C) hr.units0 hF I.ok.mod.kin J J'.type (by simp [PySem.W.notFirst]) hs hf ?_
  have r2 : Vals [V.ref a, V.ref b] [Value.ref a, Value.ref b] := .cons rfl (.cons rfl .nil)
  refine wpAny_mono (run_fn (dvs := []) (ds := []) F hr hb .nil hx I r2 (by simpa using q)) (fun v s' hv => ?_) fun _ _ z => z
  obtain ⟨z, H', I', rz, q'⟩ := hv
  exact SlX.cmpback rz ⟨z, H', I', rz, q'⟩

theorem strback {P : Value → Shared → Prop} {z : Str} {v : Value} {s' : Shared} (r : RelV (.str z) v) (h : P v s') : PySem.W.StrBack P v s' := by
  obtain ⟨t, rfl⟩ := r
  exact h
/-- str(x) of an instance with an own __str__ -/
def rStrOwn (C : Addr) (sp : Sp) (E : XK) : List V → Hp → VK → Prop := fun xs H Q => ∃ a dx fs, xs = [.ref a] ∧ H a = some (.ins C dx fs) ∧ sp [.ref a] H (fun v H' => ∃ z, v = .str z ∧ Q (.str z) H') E
theorem call_strOwn (F : FnOk X.prog X.w X.K X.mg X.base CX n f fd ps sp) (hr : Room (n + 2) X.A) (hb : Binds X.K fd ps []) (hx : Passes CX X E)
    (hs : PySem.W.findIn X.K (.ref C) "__str__" = some (some (.ref f))) (hf : PySem.W.isFn X.K (.ref f) = true) : CallR X (.type "str") (rStrOwn C sp E) := by
  intro pins s σ H xs us Q I r h
  obtain ⟨a, dx, fs, rfl, ha, q⟩ := h
  obtain ⟨u, rfl, ru⟩ := vals1 r
  cases ru
  obtain ⟨mA, J, _⟩ := ins_get I.hok ha
  obtain ⟨od, J, _⟩ := J.look
  have hr2 : Room n X.A.in1.in1 := hr.in1.in1
  refine PySem.W.kso_call hr2.units0 I.kIn J hs hf ?_
  have e0 : Env0 X.prog X.w X.K X.mg X.base X.A.in1.in1 X.stack s H := by
    have e := I.env0
    exact ⟨e.frames, e.mod, e.bs, e.bsz, e.funs, e.frf, e.hok, e.bare⟩
  have hl := F.len _ _ _ _ q
  have r2 : Vals [V.ref a] [Value.ref a] := .cons rfl .nil
  refine wpAny_call (codeAny_mono (F.run _ X.stack s H ⟨[.ref a], []⟩ [.ref a] [.ref a] _ E hr2 e0 (by
    have := hb s [.ref a] I.kIn (by simpa using hl)
    simpa using this) r2 q) fun r s' hq => ?_)
  cases r with
  | error e => exact hx pins σ H s e s' I hq
  | ok fl =>
    cases fl with
    | ret w =>
      obtain ⟨z, H', I', rz, z', ez, q'⟩ := I.after hq
      subst ez
      exact strback rz ⟨.str z', H', I', rz, q'⟩
    | next => exact False.elim hq
    | brk => exact False.elim hq
    | cont => exact False.elim hq
end

/-! ### C(e, ..) that may raise, within a try body -/
section
variable {X : Cx} {CX : CXT} {k : Nat} {f C : Addr} {fd : FuncData} {ps : List Str} {sp : Sp} {E : L2.St → XK} {x : Str} {p pos : Pos} {e : Expr} {es : List Expr} {t : TA}
theorem run_makeS {pins : List (Addr × Obj)} {σ : L2.St} {H : Hp} {s : Shared} {Q : VK} {us : List Value} {vs : List V} (M : Mk X.K C f) (F : FnOk X.prog X.w X.K X.mg X.base CX k f fd ps sp) (hr : Room (k + 1) X.A) (hb : Binds X.K fd ps [])
    (hx : PassesAt CX X σ (E σ)) (I : Inv X pins σ H s) (r : Vals vs us)
    (h : ∀ x dx, H x = none → H dx = none → dx ≠ x → sp (.ref x :: vs) (upd (upd H dx (.own x)) x (.ins C dx [])) (fun v H2 => v = .non ∧ Q (.ref x) H2) (E σ)) :
    wpAny (model X.prog X.w) X.A (call (.ref C) us) (EP X pins σ Q) X.xe s := by
  have hq := h (s.heap.objs.size + 1) s.heap.objs.size (I.hok.fresh (Nat.le_succ _)) (I.hok.fresh (Nat.le_refl _)) (Nat.ne_of_lt (Nat.lt_succ_self _))
  have I2 := Inv.made (C := C) I
  have r2 : Vals (V.ref (s.heap.objs.size + 1) :: vs) (Value.ref (s.heap.objs.size + 1) :: us) := .cons rfl r
  have hl : (Value.ref (s.heap.objs.size + 1) :: us ++ []).length = ps.length := by
    have e := r2.length
    rw [F.len _ _ _ _ hq] at e
    rw [List.append_nil]
    exact e.symm
  refine wpAny_call ((make_map (f := f) I.kIn M.makes M.init (beq_iff_eq.mp M.fn) (codeAny_mono (F.run _ X.stack _ _ ⟨Value.ref (s.heap.objs.size + 1) :: us, []⟩ (Value.ref (s.heap.objs.size + 1) :: us) _ _ (E σ) (hr.make C us [])
    (I2.env0.make C us []) (by have z := hb _ (Value.ref (s.heap.objs.size + 1) :: us) I2.kIn hl; rw [List.append_nil] at z; exact z) r2 hq) fun r s' hq' => ?_)))
  cases r with
  | error e => exact hx pins _ _ e s' I2 hq'
  | ok fl =>
    cases fl with
    | ret u =>
      obtain ⟨v, H', I3, rv, ev, q3⟩ := I2.after hq'
      subst ev
      exact ⟨rv, ⟨V.ref (s.heap.objs.size + 1), H', I3, rfl, q3⟩⟩
    | next => exact False.elim hq'
    | brk => exact False.elim hq'
    | cont => exact False.elim hq'
end
/-- C(e, ..) within a try body -/
def tMakeS (C : Addr) (sp : Sp) (E : L2.St → XK) (t : TA) : TE := fun σ H Q => t σ H fun vs H1 => ∀ x dx, H1 x = none → H1 dx = none → dx ≠ x →
  sp (.ref x :: vs) (upd (upd H1 dx (.own x)) x (.ins C dx [])) (fun v H2 => v = .non ∧ Q (.ref x) H2) (E σ)
section
variable {X : Cx} {CX : CXT} {k : Nat} {f C : Addr} {fd : FuncData} {ps : List Str} {sp : Sp} {E : L2.St → XK} {x : Str} {p pos : Pos} {e : Expr} {es : List Expr} {t : TA}
theorem pe_makeS (M : Mk X.K C f) (F : FnOk X.prog X.w X.K X.mg X.base CX k f fd ps sp) (hr : Room (k + 1) X.A) (hg : Gl X x) (hm : X.mg x = some (.ref C)) (hb : L2.Binds X.K fd ps []) (hx : ∀ σ, PassesAt CX X σ (E σ))
    (ha : PA X (e :: es) t) (hdb : (x == ("__debug__" : Str)) = false := by decide) (he : starEach (e :: es) X.env = (false, eval e X.env) :: starEach es X.env := by rfl) (hpl : (backTo pos (starEach es X.env)).any (·.1) = false := by rfl) :
    PE X (.Call (.Name x p) (e :: es) [] pos) (tMakeS C sp E t) := by
  refine ⟨fun pins s σ H Q I h => ?_⟩
  refine wpAny_Call_Name_kw (ld_glob I hg hm ?_ hdb)
  refine PySem.W.callWith_K (h₀ := X.base) I.ok.mod.kin M.kp (thn (ha.run pos pins s σ H _ I h) fun us s1 ⟨vs, H1, I1, r, q⟩ => ⟨I1.kIn, ?_⟩) he hpl
  exact run_makeS M F hr hb (hx σ) I1 r q
end

/-! ### isinstance of the error that a suite holds -/
def rIsE1 (K : PySem.W.Frag) (D a : Addr) (cls : Value) (d : Option Addr) : List V → Hp → VK → Prop := fun xs H Q => ∃ (c : V) (cv : Value) (b : Bool), xs = [.ref a, c] ∧ cls = .ref D ∧ d = none ∧ (∀ u, RelV c u → u = cv) ∧ PySem.W.kitOne K (.ref D) cv = some b ∧ Q (.bl b) H
def rIsET (K : PySem.W.Frag) (D a : Addr) (cls : Value) (d : Option Addr) : List V → Hp → VK → Prop := fun xs H Q => ∃ (tp : Addr) (cs : List V) (us : List Value) (b : Bool), xs = [.ref a, .ref tp] ∧ cls = .ref D ∧ d = none ∧ H tp = some (.tup cs) ∧ Paired ClsV cs us ∧ PySem.W.kitAny K (.ref D) us = some b ∧ Q (.bl b) H
section
variable {X : Cx} {a D : Addr} {oe : Obj} {pn : List (Addr × Obj)} {cls : Value} {d : Option Addr}
theorem call_isE1 (C : ExcC X.K D) (hz : Zc cls d oe) (hf : ∃ vs, oe.data = .fields vs) : CallR (X.suite a ((a, oe) :: pn)) (.builtin "isinstance") (rIsE1 X.K D a cls d) := by
  intro pins s σ H xs us Q I r h
  obtain ⟨c, cv, b, e1, rfl, rfl, hcv, e, q⟩ := h
  exact call_isE C hz hf pins s σ H xs us Q I r ⟨c, cv, b, e1, hcv, e, q⟩
theorem call_isET (C : ExcC X.K D) (hz : Zc cls d oe) (hf : ∃ vs, oe.data = .fields vs) : CallR (X.suite a ((a, oe) :: pn)) (.builtin "isinstance") (rIsET X.K D a cls d) := by
  intro pins s σ H xs us Q I r h
  obtain ⟨tp, cs, ws, b, rfl, rfl, rfl, hT, k, e, q⟩ := h
  obtain ⟨u1, u2, rfl, r1, r2⟩ := vals2 r
  cases (show u1 = Value.ref a from r1)
  cases (show u2 = Value.ref tp from r2)
  obtain ⟨hget, _⟩ := I.pin (a, oe) (List.mem_append.mpr (.inl List.mem_cons_self))
  obtain ⟨vs, hv⟩ := hf
  have J : PySem.W.InstAt s.heap a oe D none := by
    obtain ⟨oc, od, oda, osl⟩ := oe
    obtain ⟨h1, h2⟩ := hz
    dsimp only at h1 h2 hv
    subst h1 h2 hv
    exact ⟨hget, rfl, rfl, trivial⟩
  obtain ⟨_, its, rv, o, h1, h2, n, h3⟩ := (show ObjOk X.prog X.w H s.heap tp (.tup cs) from I.hok tp _ hT)
  have e3 := ClsV.all k rv
  subst e3
  obtain ⟨oc, od, dt, sl⟩ := o
  simp only at h2 h3
  subst h2 h3
  exact PySem.W.kia_tup (PySem.W.handS_kitx_exc C.hg C.hk C.hs C.hd C.ha C.hn C.ht C.hm) I.kIn J h1 e (fun z => nomatch z) fun tk => ⟨.bl b, H, I.kept (t' := tk) fun _ _ z => z, rfl, q⟩
end

/-! ### small words -/
theorem same_new {H : Hp} {p : Addr} (h : H p = none) (o : HO) : Same H (upd H p o) := fun b u q => by rw [upd_ne (ne_of_none q h)]; exact q
theorem same_make {H : Hp} {x dx C : Addr} (nx : H x = none) (nd : H dx = none) : Same H (upd (upd H dx (.own x)) x (.ins C dx [])) := fun b o e => by
  rw [upd_ne (ne_of_none e nx), upd_ne (ne_of_none e nd)]
  exact e
theorem ite_no {c A B : Prop} [Decidable c] (hc : ¬ c) (h : B) : if c then A else B := by rw [if_neg hc]; exact h
theorem ite_yes {c A B : Prop} [Decidable c] (hc : c) (h : A) : if c then A else B := by rw [if_pos hc]; exact h
end Mine
set_option Elab.async false
set_option linter.all false
set_option maxRecDepth 100000
set_option maxHeartbeats 4000000
/-! An own error under ValueError whose __init__ begins with super().__init__(e): its __init__ as a def that keeps a promise (pmk_oex makes of it the rule of C(e, ..)). -/
namespace Mine
open PySem PySem.Calls L2 NdefX PyProof.Rows
section
variable {X : Cx} {pins : List (Addr × Obj)} {σ : L2.St} {H : Hp} {s : Shared} {A : Around} {E : Value → Shared → Prop}
/-- the built-in __init__, bound to an exception that is being made, is called -/
theorem call_mw {a C u : Addr} {us : List Value} {Q : Value → Shared → Prop} (T : OexC X.K C) (I : Inv X pins σ H s) (e : H a = some (exo a C none)) (hu : s.heap.get? u = some (PySem.W.kxs_mw "ValueError.__init__" a)) (hl : us.length ≤ sizeLine)
    (h : ∀ s', Inv X pins σ H s' → Q .none s') : wpAny (model X.prog X.w) A (call (.ref u) us) Q E s := by
  obtain ⟨nm, q, N, bs, bm, sn, sub, ab, col, dd, k0, k1, k2, k3, k5, hC, hbm⟩ := T.cls
  obtain ⟨t1, ho⟩ := exo_at I.hok e
  have hCh := I.kIn _ _ hC
  obtain ⟨hp, g, d, t, os⟩ := s
  refine wpAny_call (codeAny_of_tree ?_)
  show wpAny _ A.in1 (callAny (.ref u) ⟨us, []⟩) _ _ _
  simp only [callAny]
  refine wpAny_bind (wpAny_load hu ?_)
  simp only [PySem.W.kxs_mw, show (Value.type "method-wrapper" == Value.type "method" || Value.type "method-wrapper" == Value.type "builtin_function_or_method" || Value.type "method-wrapper" == Value.type "method-wrapper") = true by decide, if_true]
  refine PySem.W.KFB.if_so (by decide) ?_
  refine wpAny_bind (PySem.W.check_bound_init F.excBase_ValueError.toExcCallFacts hCh ho rfl ?_)
  refine wpAny_bind (wpAny_pure (wpAny_pure ?_))
  refine ⟨plainId_quiet F.excBase_ValueError.init.plain _, codeAny_builtin F.excBase_ValueError.initEntry ?_⟩
  refine PySem.W.exc_init_tree (cls := .ref C) (t0 := t1) (dv := none) (c2 := .none) (c3 := .none) (b4 := .bool false) ho hl fun h' k hx _ => ?_
  have J := I.write (t' := t) (x := a) (e := a) (o := exo a C none) (by rw [e]; exact True.intro) (.inl rfl) k ⟨_, hx⟩ (exo_ok hx)
  have eu : upd H a (exo a C none) = H := by
    funext b
    by_cases hb : b = a
    · rw [hb, upd_same, e]
    · rw [upd_ne hb]
  rw [eu] at J
  exact h _ J
end
section
variable {CX : CXT} {P : Program} {w : World} {K : PySem.W.Frag} {mg : Str → Option Value} {base : Heap} {k : Nat} {f cda cc D : Addr} {name qual self : Str} {params : Arguments} {scope : Scope} {dV kV doc pm ct oc ccl cl : Value} {an od cdd cld : Option Addr}
  {osl ccs csl : Array (Option Value)} {vs0 : Array Value} {file : Str} {tf : Tok} {N ps0 : List Str} {sp : Sp} {p0 p1 p2 p3 p4 : Pos} {arg : Expr} {rest : List Stmt} {ar : Arg} {cdD : ClassData}
theorem one_look {n y : Str} {c0 c : Addr} (h : ([(n, c0)] : List (Str × Addr)).lookup y = some c) : y = n ∧ c = c0 := by
  unfold List.lookup at h
  split at h
  · rename_i e
    exact ⟨eq_of_beq e, (Option.some.inj h).symm⟩
  · cases h
/-- what the written part says of such an __init__ -/
structure SupIn (K : PySem.W.Frag) (D cda cc : Addr) : Prop where
  code : ∃ ccl cdd vs0 ccs file tf, K.lookup cda = some (⟨ccl, cdd, .fields vs0, ccs⟩ : Obj) ∧ vs0[2]? = some (Value.str file tf)
  cell : ∃ cl cld csl, K.lookup cc = some (⟨cl, cld, .cell (some (.ref D)), csl⟩ : Obj)
  any : PySem.W.nsIn K cStatics "thirdparty.any" = some none
  sup : PySem.W.ks_superIn K D D "__init__" = some (some (.builtin "ValueError.__init__"))
  subV : PySem.W.subIn K (.ref D) (.type "ValueError") = some true
  mro : PySem.W.mroIn K D (.ref D) = some true
theorem fn_super (lk : K.lookup f = some ⟨oc, od, .func (PySem.W.ksFn name qual params (.Expr (.Call (.Attribute (.Call (.Name "super" p0) [] [] p1) "__init__" p2) [arg] [] p3) p4 :: rest) scope dV kV doc pm an (.ref cda) ct cc), osl⟩)
    (hcd : PySem.W.codeIn K (.ref cda) qual = true) (S : NScope N (self :: ps0) ["__class__"] scope) (TO : OexC K D)
    (hcode : K.lookup cda = some ⟨ccl, cdd, .fields vs0, ccs⟩) (hvs : vs0[2]? = some (.str file tf)) (hfile : ((P.main.file : Str) == file) = true)
    (hcell : K.lookup cc = some ⟨cl, cld, .cell (some (.ref D)), csl⟩) (any : PySem.W.nsIn K cStatics "thirdparty.any" = some none)
    (sup : PySem.W.ks_superIn K D D "__init__" = some (some (.builtin "ValueError.__init__"))) (subV : PySem.W.subIn K (.ref D) (.type "ValueError") = some true) (mro : PySem.W.mroIn K D (.ref D) = some true)
    (hpar : (params.posonlyargs ++ params.args).head? = some ar) (har : ar.arg = self) (hks : scope.names.lookup ("super" : Str) = some .globalImplicit) (htop : (P.main.scope.names.lookup ("super" : Str)).isSome = false) (hsuper : mg "super" = none)
    (he : ∀ env, starEach [arg] env = [(false, eval arg env)] := by intro _; rfl) (hsw : ∀ L, swapsWith (.Call (.Attribute (.Call (.Name "super" p0) [] [] p1) "__init__" p2) [arg] [] p3) none p4.line (PySem.W.ksEnv qual scope L f (.ref cda) cc) = pure false := by intro _; rfl)
    {pl : Env → Sem Bool} (hev : ∀ env, eval (.Call (.Attribute (.Call (.Name "super" p0) [] [] p1) "__init__" p2) [arg] [] p3) env = (do
      let ov ← attributeBase (.Call (.Name "super" p0) [] [] p1) "__init__" env (eval (.Call (.Name "super" p0) [] [] p1) env)
      standAt p2.atName
      let (f, first) ← holding [ov] (getMethod ov "__init__" (pl env))
      callWith p3 f first (backTo p3 (starEach [arg] env)) []) := by intro _; rfl)
    (len : ∀ vs H Q E, sp vs H Q E → vs.length = (self :: ps0).length)
    (hbody : ∀ (A : Around) (outer : List Env) (s : Shared) (H : Hp) (vs : List V) (Q : VK) (E : XK), Room k (A.deeper (PySem.W.ksEnv qual scope s.heap.objs.size f (.ref cda) cc)) → sp vs H Q E →
      ∃ (a : Addr) (vr : List V) (ta : TA) (t : TS), vs = .ref a :: vr ∧ H a = some (exo a D none) ∧
        PA (ncx CX P w K mg base N ⟨name, qual, params, .Expr (.Call (.Attribute (.Call (.Name "super" p0) [] [] p1) "__init__" p2) [arg] [] p3) p4 :: rest, scope, [("__class__", cc)], cda⟩ f A outer s H E) [arg] ta ∧
        PSs (ncx CX P w K mg base N ⟨name, qual, params, .Expr (.Call (.Attribute (.Call (.Name "super" p0) [] [] p1) "__init__" p2) [arg] [] p3) p4 :: rest, scope, [("__class__", cc)], cda⟩ f A outer s H E) rest t ∧
        ta (startF N vs [none]) H fun ws H1 => ws.length ≤ 1000 ∧ H1 a = some (exo a D none) ∧ t { nx := fun _ H' => Q .non H', rt := Q } (startF N vs [none]) H1) :
    FnOk P w K mg base CX (k + 1) f (PySem.W.ksFn name qual params (.Expr (.Call (.Attribute (.Call (.Name "super" p0) [] [] p1) "__init__" p2) [arg] [] p3) p4 :: rest) scope dV kV doc pm an (.ref cda) ct cc) (self :: ps0) sp := by
  refine ⟨len, fun A outer s H args us vs Q E hr e0 hb r hsp => ?_⟩
  have hl := len _ _ _ _ hsp
  have KX : K.In s.heap := e0.mod.kin.keeps fun b o e => (e0.bs b o e).1
  have lim : s.heap.NoLimit := e0.mod.nolimit.keeps fun b o e => (e0.bs b o e).1
  refine PySem.ks_codeAny_call_defAt hr.depth (KX _ _ lk) rfl lim (PySem.W.codeRec_of KX hcd) rfl hb (fun x hx => S.nocell x hx) (fun ⟨n, v⟩ hy => S.par n (List.of_mem_zip hy).1) (fun h₁ hns kp => ?_) S.co S.gen S.kind
  obtain ⟨a, vr, ta, t, ev, ea, hA, hS, hta⟩ := hbody A outer s H vs Q E (hr.deeper _) hsp
  have C : CellsAt [("__class__", cc)] ["__class__"] [none] s.heap H := by
    have cb := e0.bs _ _ (e0.mod.kin _ _ hcell)
    refine ⟨rfl, fun y c e => ?_, fun x y c e1 e2 => ?_, fun i y e => ?_⟩
    · obtain ⟨_, rfl⟩ := one_look e
      exact ⟨cb.2, _, _, cb.1, rfl⟩
    · rw [(one_look e1).1, (one_look e2).1]
    · cases i with
      | zero =>
        have : y = "__class__" := (Option.some.inj e).symm
        subst this
        exact ⟨cc, rfl, fun v z => by cases z⟩
      | succ i => simp at e
  have I := inv_startN (F := ⟨name, qual, params, .Expr (.Call (.Attribute (.Call (.Name "super" p0) [] [] p1) "__init__" p2) [arg] [] p3) p4 :: rest, scope, [("__class__", cc)], cda⟩) (f := f) (CX := CX) (E := E) (tk := s.toks + ((self :: ps0).zip us).length) S hr.hd e0 hl r C hns kp
  have hN0 : N[0]? = some self := by
    have q := S.pre
    cases N with
    | nil => simp at q
    | cons n N' =>
      have q2 : n :: N'.take (ps0.length + 1) = self :: (ps0 ++ [("__class__" : Str)]) := q
      exact congrArg some (List.cons.inj q2).1
  have hself : ∃ m, h₁.Ns s.heap.objs.size m ∧ m self = some (.ref a) := by
    obtain ⟨m, hn, hlk⟩ := I.loc
    obtain ⟨u, ru, L⟩ := hlk 0 self (.ref a) hN0 (by subst ev; rfl) (.inl (S.par self List.mem_cons_self))
    obtain rfl : u = .ref a := ru
    rcases L with ⟨_, e⟩ | ⟨z | z, _⟩
    · exact ⟨m, hn, e⟩
    · have := S.par self List.mem_cons_self
      rw [show scope.names.lookup self = some .cell from z] at this
      cases this
    · have := S.par self List.mem_cons_self
      rw [show scope.names.lookup self = some .free from z] at this
      cases this
  obtain ⟨m, hm, hms⟩ := hself
  obtain ⟨mb, b1, b2⟩ := I.mod.blt
  obtain ⟨nm, q, NN, bs, bm, sn, sub, ab, col, dd, k0, k1, k2, k3, k5, hC, hbm⟩ := TO.cls
  have hDc : PySem.W.clsIn K D = some { name := nm, bases := bs, mro := .ref D :: bm, ns := NN, qualname := q, hasDict := true, slotNames := sn, subclasses := sub, abstract := ab, collection := col, hasDel := false } := by unfold PySem.W.clsIn; rw [hC] <;> rfl
  obtain ⟨t1, ho⟩ := exo_at I.hok ea
  have KH := I.kIn
  have hkc : scope.names.lookup ("__class__" : Str) = some .free := S.frk _ (List.mem_singleton.mpr rfl)
  have hint : ∀ L, interactive (PySem.W.ksEnv qual scope L f (.ref cda) cc) = false := fun L => by
    unfold interactive
    rw [show (PySem.W.ksEnv qual scope L f (.ref cda) cc).scope.kind = .function from S.kind]
    rfl
  refine PySem.ks_wpAt_execs_cons (PySem.ks_wpAt_Expr_any (PySem.ks_wpAt_MethodCall ?_ (hev _)) (hint _) (hsw _))
  refine PySem.ks_wpAt_super_base (ar := ar) hks hkc (by decide) rfl (KH _ _ lk) rfl hpar rfl (KH _ _ hcode) rfl hvs hfile htop ?_
  refine PySem.W.ks_loadName_global S.kind hks (Calls.loadGlobal_builtin (I.mod.glob.keeps I.bk) hsuper (b1.keeps I.bk) ((b2 "super" (by decide)).trans (by decide +kernel)) ⟨rfl, ?_⟩)
  refine wpAny_loadName_free S.kind hkc rfl ⟨_, KH _ _ hcell, rfl⟩ ?_
  refine wpAny_loadName_local S.kind (show scope.names.lookup ar.arg = some .local by rw [har]; exact S.par self List.mem_cons_self) hm (by rw [har]; exact hms) ?_
  refine PySem.ks_wpAny_isType_cls (KH _ _ hC) rfl ⟨rfl, ?_⟩
  refine PySem.ks_wpAny_call_super (KH _ _ hC) rfl ho rfl (fun c e => by cases e) (PySem.W.looks_mroIn KH mro) (fun h' e2 k2 => ?_)
  have I2 := I.kept (t' := s.toks + ((self :: ps0).zip us).length) k2
  obtain ⟨t2, ho2⟩ := exo_at I2.hok ea
  have IA : PySem.W.InstAt h' a ({ cls := .ref D, dict := none, data := .fields #[.ref t2, .none, .none, .none, .bool false, .none] } : Obj) D none := ⟨ho2, rfl, rfl, trivial⟩
  have KH2 : K.In h' := I2.kIn
  have supA : PySem.W.alongIn K "__init__" (((Value.ref D :: bm).dropWhile (· != .ref D)).drop 1) = some (some (.builtin "ValueError.__init__")) := by
    have z := sup
    unfold PySem.W.ks_superIn at z
    rw [hDc] at z
    exact z
  refine PySem.W.kxs_getMethod PySem.W.kxs_ValueError e2 (PySem.W.looks_opaque KH2 any) (l₀ := Value.ref D :: bm) (fun A Q E s k q => wpAny_bind ((PySem.W.looks_clsIn KH2 hDc) A _ E s k (wpAny_pure q))) rfl KH2 supA (IA.type.andThen (PySem.W.looks_subIn KH2 subV)) (PySem.W.ks_ne KH2 IA hDc) (by decide) ?_
  have I3 := I2.kept (h' := h'.push (PySem.W.kxs_mw "ValueError.__init__" a)) (t' := s.toks + ((self :: ps0).zip us).length + 1) (fun b u e => Heap.get?_push_of_some _ e)
  have I4 := I3.pins_of (pins' := [(h'.objs.size, PySem.W.kxs_mw "ValueError.__init__" a)]) (fun p hp => by
    obtain rfl : p = (h'.objs.size, PySem.W.kxs_mw "ValueError.__init__" a) := List.mem_singleton.mp hp
    exact ⟨Heap.get?_push_at rfl rfl, I2.hok.fresh (Nat.le_refl _), fun z => absurd I2.lt (by rw [← z]; exact Nat.lt_irrefl _), I2.nofs (Nat.le_refl _), fun v z => by cases z⟩)
  have hA4 := hA.run p3 _ _ _ _ _ I4 hta
  rw [he] at hA4 ⊢
  refine PySem.W.kxs_callWith (i := "ValueError.__init__") (x := a) rfl ?_
  refine evalArgs_plain (thn hA4 fun us4 s4 ⟨ws, H1, I5, r5, hz, ea5, ht⟩ => ⟨(I5.pin _ (List.mem_append_right _ (List.mem_singleton.mpr rfl))).1, ?_⟩)
  have hlen : us4.length ≤ sizeLine := by
    rw [← Paired.length r5, sizeLine_eq]
    omega
  refine call_mw TO I5 ea5 (I5.pin _ (List.mem_append_right _ (List.mem_singleton.mpr rfl))).1 hlen fun s5 J => ?_
  refine wpAt_of_wpAny (wpAny_mono (hS.run _ s5 _ _ _ J ht) (fun fl s' hs => ?_) fun e s' hs => hs)
  have fin : ∀ {σ' : L2.St} {H' : Hp} {v : V} {u : Value} {pn : List (Addr × Obj)}, Inv (ncx CX P w K mg base N ⟨name, qual, params, .Expr (.Call (.Attribute (.Call (.Name "super" p0) [] [] p1) "__init__" p2) [arg] [] p3) p4 :: rest, scope, [("__class__", cc)], cda⟩ f A outer s H E) pn σ' H' s' → L2.RelV v u → Q v H' → CE outer P w H s Q u s' :=
    fun {σ' H' v u pn} J rv q => ⟨v, H', J.os, J.bare, J.base, J.hok, rv, q⟩
  cases fl with
  | ret u =>
    obtain ⟨v, σ', H', J, rv, q⟩ := hs
    exact fin J rv q
  | next =>
    obtain ⟨σ', H', J, q⟩ := hs
    exact fin (v := V.non) (u := Value.none) J rfl q
  | brk =>
    obtain ⟨_, _, _, q⟩ := hs
    exact False.elim q
  | cont =>
    obtain ⟨_, _, _, q⟩ := hs
    exact False.elim q
end
end Mine
set_option Elab.async false
set_option linter.all false
set_option maxRecDepth 100000
set_option maxHeartbeats 4000000
/-! class E(..): def __init__(self, x): super().__init__(f"..{x}.."); self.f = x, E under ValueError: C(e) as a rule. -/
namespace Mine
open PySem PySem.Calls L2 NdefX PyProof.Rows
structure ErrF (K : PySem.W.Frag) (mg : Str → Option Value) (C f : Addr) (fd : FuncData) (qual : Str) (st : Stmt) (file fld : Str) : Prop where
  ex : ∃ (oc : Value) (od : Option Addr) (osl : Array (Option Value)) (dV kV doc pm : Value) (an : Option Addr) (cda : Addr) (ct : Value) (cc : Addr) (ccl : Value) (cdd : Option Addr) (ccs : Array (Option Value)) (vs0 : Array Value) (tf : Tok) (cl : Value) (cld : Option Addr) (csl : Array (Option Value)),
    fd = PySem.W.ksFn "__init__" qual (defArgs st) (defBody st) (defScope st) dV kV doc pm an (.ref cda) ct cc ∧ K.lookup f = some ⟨oc, od, .func fd, osl⟩ ∧ PySem.W.codeIn K (.ref cda) qual = true ∧
    K.lookup cda = some ⟨ccl, cdd, .fields vs0, ccs⟩ ∧ vs0[2]? = some (.str file tf) ∧ K.lookup cc = some ⟨cl, cld, .cell (some (.ref C)), csl⟩
  any : PySem.W.nsIn K cStatics "thirdparty.any" = some none
  sup : PySem.W.ks_superIn K C C "__init__" = some (some (.builtin "ValueError.__init__"))
  subV : PySem.W.subIn K (.ref C) (.type "ValueError") = some true
  mro : PySem.W.mroIn K C (.ref C) = some true
  T : OexC K C
  iC : PySem.W.findIn K (.ref C) "__init__" = some (some (.ref f))
  tI : PySem.W.typeIn K (.ref f) = some (.type "function")
  no : PySem.W.findIn K (.ref C) fld = some none
  z : mg "super" = none
/-- the program's own file -/
def PrF (P : Program) (file : Str) : Prop := ((P.main.file : Str) == file) = true ∧ (P.main.scope.names.lookup ("super" : Str)).isSome = false
theorem len_app {a b : Str} {m n : Nat} (ha : a.length ≤ m) (hb : b.length ≤ n) : (a ++ b).length ≤ m + n := by rw [Str.length_append]; exact Nat.add_le_add ha hb
theorem int_len {i : Int} (hi : i.natAbs < 2 ^ 64) : (Str.ofString (toString i)).length ≤ 65 ∧ i.natAbs.log2 < 1920 := by
  have h := PySem.Flt.log2_lt_of (k := 64) (by decide) hi
  refine ⟨?_, Nat.lt_of_lt_of_le h (by decide)⟩
  rw [PySem.ofString_length]
  exact int_text_length_le (k := 64) (by decide) h
theorem emp_len : Str.empty.length ≤ 0 := by decide +kernel
section
variable {a b : Str} {σ : L2.St} {H : Hp} {Q : VK}
theorem js_I3 {i : Int} (ha : a.length ≤ 1000) (hb : b.length ≤ 1000) (e : σ[1]? = some (some (.int i))) (hi : i.natAbs < 2 ^ 64) (q : ∀ t : Str, Q (.str t) H) :
    tJs [tC (.str a), tFmt (tVar 1), tC (.str b)] Str.empty σ H fun out H1 => Q (.str out) H1 := by
  have l1 := len_app emp_len ha
  have l2 := len_app l1 (int_len hi).1
  have l3 := len_app l2 hb
  exact ⟨_, rfl, Nat.le_trans l1 (by decide), _, e, .inr ⟨i, rfl, (int_len hi).2, _, rfl, Nat.le_trans l2 (by decide), _, rfl, Nat.le_trans l3 (by decide), q _⟩⟩
theorem js_S3 {y : Str} (ha : a.length ≤ 1000) (hb : b.length ≤ 1000) (e : σ[1]? = some (some (.str y))) (hi : y.length ≤ 1000) (q : ∀ t : Str, Q (.str t) H) :
    tJs [tC (.str a), tFmt (tVar 1), tC (.str b)] Str.empty σ H fun out H1 => Q (.str out) H1 := by
  have l1 := len_app emp_len ha
  have l2 := len_app l1 hi
  have l3 := len_app l2 hb
  exact ⟨_, rfl, Nat.le_trans l1 (by decide), _, e, .inl ⟨y, rfl, Nat.le_trans hi (by decide), _, rfl, Nat.le_trans l2 (by decide), _, rfl, Nat.le_trans l3 (by decide), q _⟩⟩
theorem js_S2 {y : Str} (ha : a.length ≤ 1000) (e : σ[1]? = some (some (.str y))) (hi : y.length ≤ 1000) (q : ∀ t : Str, Q (.str t) H) :
    tJs [tC (.str a), tFmt (tVar 1)] Str.empty σ H fun out H1 => Q (.str out) H1 := by
  have l1 := len_app emp_len ha
  have l2 := len_app l1 hi
  exact ⟨_, rfl, Nat.le_trans l1 (by decide), _, e, .inl ⟨y, rfl, Nat.le_trans hi (by decide), _, rfl, Nat.le_trans l2 (by decide), q _⟩⟩
end
/-- what such an __init__ promises -/
def spErr (D : Addr) (fld : Str) (ok : V → Prop) : Sp := fun vs H Q _ => ∃ (a : Addr) (y : V), vs = [.ref a, y] ∧ H a = some (exo a D none) ∧ ok y ∧ ∀ dx, H dx = none → dx ≠ a → Q .non (upd (upd H dx (exd dx [(fld, y)])) a (exo a D (some dx)))
section
variable {P : Program} {w : World} {K : PySem.W.Frag} {mg : Str → Option Value} {base : Heap} {k : Nat} {C f : Addr} {fd : FuncData} {qual file fld x : Str} {st : Stmt} {p0 p1 p2 p3 p4 a1 a2 a3 a4 : Pos} {arg : Expr} {ar : Arg} {targ : TE} {ok : V → Prop}
theorem err_ok (F : ErrF K mg C f fd qual st file fld) (hfile : ((P.main.file : Str) == file) = true) (htop : (P.main.scope.names.lookup ("super" : Str)).isSome = false)
    (hb : defBody st = [.Expr (.Call (.Attribute (.Call (.Name "super" p0) [] [] p1) "__init__" p2) [arg] [] p3) p4, .Assign [.Attribute (.Name "self" a1) fld a2] (.Name x a3) a4])
    (S : NScope [("self" : Str), x, "__class__"] [("self" : Str), x] ["__class__"] (defScope st)) (hpar : ((defArgs st).posonlyargs ++ (defArgs st).args).head? = some ar) (har : ar.arg = "self") (hks : (defScope st).names.lookup ("super" : Str) = some .globalImplicit)
    (he : ∀ env, starEach [arg] env = [(false, eval arg env)]) (hsw : ∀ env, swapsWith (.Call (.Attribute (.Call (.Name "super" p0) [] [] p1) "__init__" p2) [arg] [] p3) none p4.line env = pure false)
    {pl : Env → Sem Bool} (hev : ∀ env, eval (.Call (.Attribute (.Call (.Name "super" p0) [] [] p1) "__init__" p2) [arg] [] p3) env = (do
      let ov ← attributeBase (.Call (.Name "super" p0) [] [] p1) "__init__" env (eval (.Call (.Name "super" p0) [] [] p1) env)
      standAt p2.atName
      let (f, first) ← holding [ov] (getMethod ov "__init__" (pl env))
      callWith p3 f first (backTo p3 (starEach [arg] env)) []))
    (hsw2 : ∀ env, swapsWith (.Name x a3) (some (.Attribute (.Name "self" a1) fld a2)) a4.line env = pure false)
    (hx : (x == ("__debug__" : Str)) = false) (hx2 : (x == ("__classdict__" : Str)) = false)
    (harg : ∀ X : Cx, X.N = [("self" : Str), x, "__class__"] → X.env.scope = defScope st → PE X arg targ)
    (htarg : ∀ (σ : L2.St) (H : Hp) (y : V) (Q : VK), σ[1]? = some (some y) → ok y → (∀ t : Str, Q (.str t) H) → targ σ H Q) :
    FnOk P w K mg base CX0 (k + 1) f fd [("self" : Str), x] (spErr C fld ok) := by
  obtain ⟨oc, od, osl, dV, kV, doc, pm, an, cda, ct, cc, ccl, cdd, ccs, vs0, tf, cl, cld, csl, efd, lk, hcd, hcode, hvs, hcell⟩ := F.ex
  rw [hb] at efd
  subst efd
  refine fn_super lk hcd S F.T hcode hvs hfile hcell F.any F.sup F.subV F.mro hpar har hks htop F.z he (fun _ => hsw _) hev (fun vs H Q E ⟨a, y, e, _⟩ => by rw [e]; rfl) (fun A outer s H vs Q E hr h => ?_)
  obtain ⟨a, y, e, ea, oy, q⟩ := h
  subst e
  have vx : ∀ z : Str, z ∈ [("self" : Str), x] → Vis (defScope st) z := fun z hz => .inl (S.par z hz)
  refine ⟨a, [y], _, _, rfl, ea, pa_cons (harg _ rfl rfl) pa_nil (by rw [he] <;> first | rfl | simp [starEach]), pss_one (ps_ost (pe_var (i := 0) rfl (vx _ List.mem_cons_self)) (pe_var (i := 1) rfl (vx _ (List.mem_cons_of_mem _ List.mem_cons_self)) hx hx2) (hsw2 _)), ?_⟩
  refine htarg _ _ y _ rfl oy fun t => ?_
  show _ ∧ _
  refine ⟨by simp, ea, y, rfl, .ref a, rfl, a, C, rfl, F.T, F.no, .inl ⟨ea, fun dx hn hd => q dx hn hd⟩⟩
/-- C(e) -/
def tErr (C : Addr) (fld : Str) (ok : V → Prop) (ta : TA) : L2.St → Hp → XK → Prop := fun σ H Q => ta σ H fun vs H1 => ∃ y, vs = [y] ∧ ok y ∧ ∀ d, H1 d = none → Q (.ref C) (some d) (upd H1 d (.xd [(fld, y)]))
theorem pmk_err {X : Cx} {nm : Str} {e : Expr} {es : List Expr} {ta : TA} {p pos : Pos} (F : ErrF X.K X.mg C f fd qual st file fld) (G : FnOk X.prog X.w X.K X.mg X.base CX0 k f fd [("self" : Str), x] (spErr C fld ok)) (hb : Binds X.K fd [("self" : Str), x] [])
    (hr : Room (k + 1) X.A) (hg : Gl X nm) (hm : X.mg nm = some (.ref C)) (ha : PA X (e :: es) ta)
    (hdb : (nm == ("__debug__" : Str)) = false := by decide) (he : starEach (e :: es) X.env = (false, eval e X.env) :: starEach es X.env := by rfl) (hpl : (backTo pos (starEach es X.env)).any (·.1) = false := by rfl) :
    PMk X (.Call (.Name nm p) (e :: es) [] pos) (tErr C fld ok ta) := by
  intro pins s σ H Q I h
  have ha' : PA X (e :: es) (fun σ H Q => ∃ Q', ta σ H Q' ∧ ∀ vs H1, Q' vs H1 → Q vs H1) := ⟨fun pos pins s σ H Q I ⟨Q', q, m⟩ => thn (ha.run pos pins s σ H Q' I q) fun us s1 ⟨vs, H1, J, r, z⟩ => ⟨vs, H1, J, r, m _ _ z⟩⟩
  refine pmk_oex F.T F.iC F.tI G hr hb .nil pass0 hg hm ha' hdb he hpl pins s σ H Q I ⟨_, h, fun vs H1 z => ?_⟩
  obtain ⟨y, rfl, oy, q⟩ := z
  refine ⟨by simp, fun a hna => ?_⟩
  show spErr C fld ok [.ref a, y] _ _ _
  refine ⟨a, y, rfl, upd_same, oy, fun dx hd hn => ⟨rfl, dx, [(fld, y)], upd_same, ?_, ?_, ?_⟩⟩
  · rw [upd_ne hn, upd_same]
  · rw [upd_ne hn] at hd
    exact hd
  · rw [upd_ne hn] at hd
    have e : upd (del (upd (upd (upd H1 a (exo a C none)) dx (exd dx [(fld, y)])) a (exo a C (some dx))) a) dx (.xd [(fld, y)]) = upd H1 dx (.xd [(fld, y)]) := by
      funext b
      by_cases h1 : b = dx
      · rw [h1, upd_same, upd_same]
      · rw [upd_ne h1, upd_ne h1]
        by_cases h2 : b = a
        · rw [h2, del_same, hna]
        · rw [del_ne h2, upd_ne h2, upd_ne h1, upd_ne h2]
    rw [e]
    exact q dx hd
end
end Mine
set_option Elab.async false
set_option linter.all false
set_option maxRecDepth 100000
set_option maxHeartbeats 2000000
/-! Words of a text: names, numbers; an object that takes them one after the other. -/
namespace Pz
open PySem L2 Gm
def lets : Str := "abcdefghijklmnopqrstuvwxyz"
def digs : Str := "0123456789"
def letB (c : Nat) : Bool := decide (c ∈ lets.cps.toList)
def digB (c : Nat) : Bool := decide (c ∈ digs.cps.toList)
def keys : List Str := ["var", "table", "lots", "proc", "local", "set", "let", "draw", "put", "lot", "ask", "if", "else", "end", "bad", "after", "answer", "has", "cell", "mod"]
def signs (w : Str) : List Nat := w.cps.toList
def isName (w : Str) : Bool := decide (1 ≤ w.length ∧ w.length ≤ 12) && !decide (w ∈ keys) && (match signs w with | [] => false | c :: _ => letB c) && (signs w).all fun c => letB c || digB c
def numW (w : Str) : Nat := NumText.digitsVal (signs w)
def isNum (w : Str) : Bool := decide (1 ≤ w.length ∧ w.length ≤ 5) && (signs w).all digB && (match signs w with | [] => false | c :: _ => if c = 48 then decide (w = "0") else decide (numW w ≤ 65535))
theorem len_signs (w : Str) : (signs w).length = w.length := Array.length_toList
theorem digB_iff {c : Nat} : digB c = true ↔ 48 ≤ c ∧ c ≤ 57 := by
  unfold digB
  rw [decide_eq_true_iff, show digs.cps.toList = [48, 49, 50, 51, 52, 53, 54, 55, 56, 57] from by decide +kernel]
  simp only [List.mem_cons, List.not_mem_nil, or_false]
  omega
theorem num_text {w : Str} (h : (signs w).all digB = true) (h1 : 1 ≤ w.length) (h2 : w.length ≤ 5) : intText? w = some ((numW w : Nat) : Int) := by
  refine _root_.PySem.intText_digits (fun c hc => ?_) (fun z => ?_) (by omega)
  · exact digB_iff.mp (List.all_eq_true.mp h c hc)
  · have := len_signs w
    unfold signs at this
    rw [z] at this
    simp at this
    omega
theorem flat_strs : ∀ xs : List Str, (xs.map V.str).all flatV = true
  | [] => rfl
  | x :: xs => by rw [List.map_cons, List.all_cons, flat_strs xs]; rfl
theorem inV_strs (x : Str) : ∀ xs : List Str, inV (.str x) (xs.map V.str) = decide (x ∈ xs)
  | [] => rfl
  | y :: xs => by
    have ih := inV_strs x xs
    unfold inV at ih ⊢
    rw [List.map_cons, List.any_cons, ih]
    by_cases h : y = x
    · subst h
      rw [show eqV (.str y) (.str y) = true from by simp [eqV], Bool.true_or]
      exact (decide_eq_true List.mem_cons_self).symm
    · rw [show eqV (.str y) (.str x) = false from by simp [eqV, h], Bool.false_or]
      refine decide_eq_decide.mpr ⟨List.mem_cons_of_mem _, fun m => ?_⟩
      rcases List.mem_cons.mp m with e | e
      · exact absurd e.symm h
      · exact e
/-- the word at a place, the empty word behind the last one -/
def wd (ws : List Str) (i : Nat) : Str := ws.getD i Str.empty
/-- all but the object at p stands -/
def But (p : Addr) (H H' : Hp) : Prop := ∀ b o, H b = some o → b ≠ p → H' b = some o
theorem But.refl (p : Addr) (H : Hp) : But p H H := fun _ _ e _ => e
theorem But.trans {p : Addr} {H H1 H2 : Hp} (a : But p H H1) (b : But p H1 H2) : But p H H2 := fun c o e n => b c o (a c o e n) n
theorem But.same {p : Addr} {H H' : Hp} (s : Same H H') : But p H H' := fun b o e _ => s b o e
theorem But.upd {p : Addr} {H : Hp} {o : HO} : But p H (upd H p o) := fun b u e n => by rw [upd_ne n]; exact e
/-- an object that takes words: ws in the list at l, the next one i -/
structure WAt (C : Addr) (H : Hp) (p l : Addr) (ws : List Str) (i : Nat) : Prop where
  ob : ∃ dx fs, H p = some (.ins C dx fs) ∧ fs.lookup ("words" : Str) = some (.ref l) ∧ fs.lookup ("at" : Str) = some (.int i) ∧ (∀ m : Str, m ≠ "words" → m ≠ "at" → fs.lookup m = none) ∧ fs.length < 900
  li : H l = some (.lst (ws.map V.str))
  le : i ≤ ws.length
  sz : ws.length < 1000000
  wl : ∀ w ∈ ws, w.length ≤ 1000000
section
variable {C : Addr} {H H' : Hp} {p l : Addr} {ws : List Str} {i : Nat}
theorem WAt.ne (h : WAt C H p l ws i) : l ≠ p := fun e => by
  obtain ⟨dx, fs, e1, _⟩ := h.ob
  have e2 := h.li
  rw [e, e1] at e2
  cases e2
theorem WAt.same (h : WAt C H p l ws i) (s : Same H H') : WAt C H' p l ws i :=
  let ⟨dx, fs, e1, e2⟩ := h.ob
  ⟨⟨dx, fs, s _ _ e1, e2⟩, s _ _ h.li, h.le, h.sz, h.wl⟩
theorem But.tups {H H' : Hp} {p : Addr} {C : Addr} {dx : Addr} {fs : List (Str × V)} (b : But p H H') (h : H p = some (.ins C dx fs)) : Tups H H' := fun c o e k => b c o e fun z => by
  rw [z, h] at e
  cases e
  rcases k with ⟨_, z⟩ | ⟨_, _, z⟩ <;> cases z
theorem WAt.tups (h : WAt C H p l ws i) (b : But p H H') : Tups H H' :=
  let ⟨dx, fs, e1, _⟩ := h.ob
  b.tups e1
theorem wd_len (h : WAt C H p l ws i) : (wd ws i).length ≤ 1000000 := by
  unfold wd
  rw [List.getD_eq_getElem?_getD]
  cases e : ws[i]? with
  | none => exact Nat.zero_le _
  | some w => exact h.wl w (List.mem_of_getElem? e)
theorem putF_len {f : Str} {v x : V} : ∀ {fs : List (Str × V)}, fs.lookup f = some x → (putF f v fs).length = fs.length
  | [], h => by cases h
  | (g, y) :: r, h => by
    by_cases e : g = f
    · rw [putF, if_pos e] <;> rfl
    · have e2 : (f == g) = false := by
        cases z : f == g with
        | false => rfl
        | true => exact absurd (eq_of_beq z).symm e
      rw [putF, if_neg e, List.length_cons, List.length_cons, putF_len (fs := r) (by simpa [List.lookup, e2] using h)]
theorem WAt.lt_of (h : WAt C H p l ws i) (n : wd ws i ≠ Str.empty) : i < ws.length := by
  refine Nat.lt_of_le_of_ne h.le fun e => n ?_
  unfold wd
  rw [e, List.getD_eq_getElem?_getD, List.getElem?_eq_none (Nat.le_refl _)]
  rfl
theorem isNum_text {w : Str} (h : isNum w = true) : intText? w = some ((numW w : Nat) : Int) ∧ w.length ≤ 640 := by
  unfold isNum at h
  rw [Bool.and_eq_true, Bool.and_eq_true] at h
  have l := of_decide_eq_true h.1.1
  exact ⟨num_text h.1.2 l.1 l.2, by omega⟩
/-- the words that v offers -/
def Amg (K : PySem.W.Frag) (H : Hp) (v : V) (cs : List Str) : Prop :=
  ∃ a, v = .ref a ∧ (SqL K H a (cs.map V.str) ∨ SqT K H a (cs.map V.str) ∨ ∃ kvs, H a = some (.dK kvs) ∧ ∀ x : Str, (valV kvs (.inr x)).isSome = decide (x ∈ cs))
def rNotU (K : PySem.W.Frag) : R2 := fun x y H Q => rIn K true x y H Q ∨ ∃ a ov, y = .ref a ∧ DGet H a x ov ∧ Q (.bl (!ov.isSome)) H
theorem op_notU {X : Cx} (hu : X.A.units + 1 < cLine) : OpR X (compareOp .NotIn) (rNotU X.K) := by
  intro pins s σ H x y v u Q I rx ry h
  rcases h with h | ⟨a, ov, rfl, g, q⟩
  · exact op_notIn_seq pins s σ H x y v u Q I rx ry h
  · obtain rfl : u = Value.ref a := ry
    exact d_notIn hu I g rx fun s3 I3 => ⟨.bl (!ov.isSome), H, I3, rfl, q⟩
theorem Amg.notU {K : PySem.W.Frag} {H : Hp} {v : V} {cs : List Str} {x : Str} {Q : VK} (h : Amg K H v cs) (q : Q (.bl (!decide (x ∈ cs))) H) : rNotU K (.str x) v H Q := by
  obtain ⟨a, rfl, h | h | ⟨kvs, h, k⟩⟩ := h
  · refine .inl ⟨a, _, rfl, .inl h, rfl, flat_strs _, ?_⟩
    rw [if_pos rfl, inV_strs]
    exact q
  · refine .inl ⟨a, _, rfl, .inr h, rfl, flat_strs _, ?_⟩
    rw [if_pos rfl, inV_strs]
    exact q
  · refine .inr ⟨a, _, rfl, DGet.k (k := .inr x) h, ?_⟩
    rw [k x]
    exact q
/-- a text refused at the word i -/
def Ref (p B : Addr) (H : Hp) (i : Nat) (E : XK) : Prop := ∀ d H', But p H H' → H' d = some (.xd [("at", .int i)]) → E (.ref B) (some d) H'
theorem Ref.later {p B : Addr} {H H1 : Hp} {i : Nat} {E : XK} (h : Ref p B H i E) (b : But p H H1) : Ref p B H1 i E := fun d H' c e => h d H' (b.trans c) e
theorem WAt.nomt {m : Str} (h : WAt C H p l ws i) (h1 : m ≠ "words" := by decide) (h2 : m ≠ "at" := by decide) : ∃ dx fs, H p = some (.ins C dx fs) ∧ fs.lookup m = none :=
  let ⟨dx, fs, e1, _, _, e4, _⟩ := h.ob
  ⟨dx, fs, e1, e4 m h1 h2⟩
end
/-! ### what the methods promise -/
section
variable (C B : Addr)
def spEnded : Sp := fun vs H Q _ => ∃ (p l : Addr) (ws : List Str) (i : Nat), vs = [.ref p] ∧ WAt C H p l ws i ∧ Q (.bl (decide (i = ws.length))) H
def spAhead : Sp := fun vs H Q _ => ∃ (p l : Addr) (ws : List Str) (i : Nat), vs = [.ref p] ∧ WAt C H p l ws i ∧ Q (.str (wd ws i)) H
def toWords (x : Str) : List Str := if x.length = 0 then [] else Txt.split x " "
def spWords : Sp := fun vs H Q _ => ∃ (p dx : Addr) (x : Str), vs = [.ref p, .str x] ∧ H p = some (.ins C dx []) ∧ x.length ≤ 900000 ∧ (toWords x).length < 1000000 ∧ (∀ w ∈ toWords x, w.length ≤ 1000000) ∧
  ∀ l H', But p H H' → WAt C H' p l (toWords x) 0 → Q .non H'
def spRefuse : Sp := fun vs H _ E => ∃ (p l : Addr) (ws : List Str) (i : Nat), vs = [.ref p] ∧ WAt C H p l ws i ∧ Ref p B H i E
def spTake : Sp := fun vs H Q _ => ∃ (p l : Addr) (ws : List Str) (i : Nat), vs = [.ref p] ∧ WAt C H p l ws i ∧ i < ws.length ∧ ∀ H', But p H H' → WAt C H' p l ws (i + 1) → Q (.str (wd ws i)) H'
/-- one word is taken, or refused -/
def Tk1 (p l : Addr) (ws : List Str) (i : Nat) (H : Hp) (Q : V → Hp → Prop) (E : XK) (c : Bool) (y : V) : Prop := if c = true then ∀ H', But p H H' → WAt C H' p l ws (i + 1) → Q y H' else Ref p B H i E
def spOneOf (K : PySem.W.Frag) : Sp := fun vs H Q E => ∃ (p l : Addr) (ws : List Str) (i : Nat) (v : V) (cs : List Str), vs = [.ref p, v] ∧ WAt C H p l ws i ∧ Amg K H v cs ∧ Str.empty ∉ cs ∧ Tk1 C B p l ws i H Q E (decide (wd ws i ∈ cs)) (.str (wd ws i))
def spName (K : PySem.W.Frag) : Sp := fun vs H Q E => ∃ (p l : Addr) (ws : List Str) (i : Nat) (a : Addr) (cs : List Str), vs = [.ref p, .ref a] ∧ WAt C H p l ws i ∧ (SqL K H a (cs.map V.str) ∨ SqT K H a (cs.map V.str)) ∧ Tk1 C B p l ws i H Q E (isName (wd ws i) && !decide (wd ws i ∈ cs)) (.str (wd ws i))
def spNumber : Sp := fun vs H Q E => ∃ (p l : Addr) (ws : List Str) (i : Nat), ∃ lo hi : Int, vs = [.ref p, .int lo, .int hi] ∧ WAt C H p l ws i ∧ Tk1 C B p l ws i H Q E (isNum (wd ws i) && decide (lo ≤ (numW (wd ws i) : Nat) ∧ ((numW (wd ws i) : Nat) : Int) ≤ hi)) (.int (numW (wd ws i) : Nat))
def spFinish : Sp := fun vs H Q E => ∃ (p l : Addr) (ws : List Str) (i : Nat), vs = [.ref p] ∧ WAt C H p l ws i ∧ if i = ws.length then Q .non H else Ref p B H i E
end
/-! ### expressions: what is read -/
def looks : List Str := ["has", "cell"]
def lookEx (x t : Str) (e : Ex) : Ex := if x = "has" then .has t e else .cell t e
def pAtom (ws : List Str) (s : Sc) (i : Nat) : Except Nat (Ex × Nat) :=
  if isNum (wd ws i) = true then .ok (.num (numW (wd ws i) : Nat), i + 1)
  else if wd ws i ∈ s.vars then .ok (.var (wd ws i), i + 1)
  else if wd ws i ∈ s.locs then .ok (.loc (wd ws i), i + 1)
  else .error i
def pExpr (ws : List Str) (s : Sc) : Nat → Nat → Except Nat (Ex × Nat)
  | 0, i => pAtom ws s i
  | k + 1, i =>
    if wd ws i ∈ ops then
      match pExpr ws s k (i + 1) with
      | .error j => .error j
      | .ok (a, j) => match pExpr ws s k j with
        | .error m => .error m
        | .ok (b, m) => .ok (.op (wd ws i) a b, m)
    else if wd ws i ∈ looks ∧ s.tabs ≠ [] then
      if wd ws (i + 1) ∈ s.tabs then
        match pExpr ws s k (i + 2) with
        | .error j => .error j
        | .ok (e, j) => .ok (lookEx (wd ws i) (wd ws (i + 1)) e, j)
      else .error (i + 1)
    else pAtom ws s i
/-- the data of the words that are an expression by themselves -/
def MeanAt (K : PySem.W.Frag) (H : Hp) (m : Addr) (s : Sc) : Prop :=
  ∃ kvs, H m = some (.dK kvs) ∧ ∀ x : Str, (x ∈ s.vars → ∃ v, valV kvs (.inr x) = some v ∧ Dp K H v (Ex.var x).d) ∧ (x ∉ s.vars → x ∈ s.locs → ∃ v, valV kvs (.inr x) = some v ∧ Dp K H v (Ex.loc x).d) ∧
    (x ∉ s.vars → x ∉ s.locs → valV kvs (.inr x) = none)
section
variable {K : PySem.W.Frag} {C : Addr} {H H' : Hp} {p l m : Addr} {ws : List Str} {i : Nat} {s : Sc}
theorem WAt.other (h : WAt C H p l ws i) {a : Addr} {o : HO} (e : H a = some o) (n : ∀ C dx fs, o ≠ .ins C dx fs) : a ≠ p := fun z => by
  obtain ⟨dx, fs, e1, _⟩ := h.ob
  rw [z, e1] at e
  exact n _ _ _ (Option.some.inj e).symm
theorem WAt.sqL (h : WAt C H p l ws i) (b : But p H H') {a : Addr} {xs : List V} (e : SqL K H a xs) : SqL K H' a xs := by
  rcases e with (e | ⟨o, e⟩) | e
  · exact .inl (.inl (b _ _ e (h.other e fun _ _ _ z => by cases z)))
  · exact .inl (.inr ⟨o, b _ _ e (h.other e fun _ _ _ z => by cases z)⟩)
  · exact .inr e
theorem WAt.sqT (h : WAt C H p l ws i) (b : But p H H') {a : Addr} {xs : List V} (e : SqT K H a xs) : SqT K H' a xs := sqT_tups (h.tups b) e
theorem WAt.dp (h : WAt C H p l ws i) (b : But p H H') {v : V} (e : Ex) (d : Dp K H v e.d) : Dp K H' v e.d := dp_tups (h.tups b) _ _ (Ex.nol e) d
theorem WAt.mean (h : WAt C H p l ws i) (b : But p H H') (M : MeanAt K H m s) : MeanAt K H' m s := by
  obtain ⟨kvs, e, f⟩ := M
  refine ⟨kvs, b _ _ e (h.other e fun _ _ _ z => by cases z), fun x => ⟨fun hx => ?_, fun h1 h2 => ?_, (f x).2.2⟩⟩
  · obtain ⟨v, e1, d⟩ := (f x).1 hx
    exact ⟨v, e1, h.dp b _ d⟩
  · obtain ⟨v, e1, d⟩ := (f x).2.1 h1 h2
    exact ⟨v, e1, h.dp b _ d⟩
theorem MeanAt.amg (M : MeanAt K H m s) : Amg K H (.ref m) (s.vars ++ s.locs) := by
  obtain ⟨kvs, e, f⟩ := M
  refine ⟨m, rfl, .inr (.inr ⟨kvs, e, fun x => ?_⟩)⟩
  by_cases h1 : x ∈ s.vars
  · obtain ⟨v, e1, _⟩ := (f x).1 h1
    rw [e1]
    exact (decide_eq_true (List.mem_append_left _ h1)).symm
  · by_cases h2 : x ∈ s.locs
    · obtain ⟨v, e1, _⟩ := (f x).2.1 h1 h2
      rw [e1]
      exact (decide_eq_true (List.mem_append_right _ h2)).symm
    · rw [(f x).2.2 h1 h2]
      exact (decide_eq_false fun z => (List.mem_append.mp z).elim h1 h2).symm
end
/-- what is known of the names in scope -/
structure NoE (s : Sc) : Prop where
  v : Str.empty ∉ s.vars
  l : Str.empty ∉ s.locs
  t : Str.empty ∉ s.tabs
/-- how a reading of an expression ends -/
def ExEnd (C B : Addr) (K : PySem.W.Frag) (p l : Addr) (ws : List Str) (H : Hp) (Q : VK) (E : XK) : Except Nat (Ex × Nat) → Prop
  | .ok (e, j) => ∀ v H', But p H H' → WAt C H' p l ws j → Dp K H' v e.d → Q v H'
  | .error j => Ref p B H j E
def spExpr (C B : Addr) (K : PySem.W.Frag) (k : Nat) : Sp := fun vs H Q E => ∃ (p l m tb : Addr) (ws : List Str) (i : Nat) (s : Sc), vs = [.ref p, .ref m, .ref tb, .int (8 - (k : Int))] ∧ WAt C H p l ws i ∧ MeanAt K H m s ∧ SqL K H tb (s.tabs.map V.str) ∧ NoE s ∧
  ExEnd C B K p l ws H Q E (pExpr ws s k i)
theorem isNum_le {x : Str} (h : isNum x = true) : numW x ≤ 65535 := by
  unfold isNum at h
  rw [Bool.and_eq_true] at h
  have h2 := h.2
  cases e : signs x with
  | nil => rw [e] at h2; cases h2
  | cons c cs =>
    rw [e] at h2
    have h2 : (if c = 48 then decide (x = "0") else decide (numW x ≤ 65535)) = true := h2
    by_cases z : c = 48
    · rw [if_pos z] at h2
      have : x = "0" := of_decide_eq_true h2
      rw [this]
      decide +kernel
    · rw [if_neg z] at h2
      exact of_decide_eq_true h2
theorem dp_look {K : PySem.W.Frag} {H : Hp} {q : Addr} {x t : Str} {v : V} {e : Ex} (hq : H q = none) (h : x ∈ looks) (d : Dp K H v e.d) : Dp K (upd H q (.tup [.str x, .str t, v])) (.ref q) (lookEx x t e).d := by
  unfold lookEx
  rcases List.mem_cons.mp h with rfl | h
  · rw [if_pos rfl]
    unfold Ex.d
    exact dp_tup hq (.cons (.str _) (.cons (.str _) (.cons d .nil)))
  · obtain rfl := List.mem_singleton.mp h
    rw [if_neg (by decide +kernel)]
    unfold Ex.d
    exact dp_tup hq (.cons (.str _) (.cons (.str _) (.cons d .nil)))
/-- the statements behind two ifs, where both fall through -/
theorem tail_split {a a' : TT} {A A' B B' R : TS} {D : Ends} {σ : L2.St} {H : Hp} (c : Prop) (h : (c → R D σ H) → tSeq (tIfS a A A') (tSeq (tIfS a' B B') R) D σ H) (hr : c → R D σ H) : tSeq (tIfS a A A') (tSeq (tIfS a' B B') R) D σ H := h hr
end Pz
set_option Elab.async false
set_option linter.all false
set_option maxRecDepth 100000
set_option maxHeartbeats 4000000
/-! A list comprehension whose element may raise: the exception of a call leaves the block, and the def. -/
namespace Mine
open PySem PySem.Calls L2 PyProof.Rows
/-- what a call within a block let out -/
def XC (Y : Cx) (E : XK) : Value → Shared → Prop := fun u t => ∃ (pins : List (Addr × Obj)) (σ : L2.St) (H : Hp) (s : Shared), Inv Y pins σ H s ∧ L2.CX Y.prog Y.w Y.stack H s E u t
/-- the block's context, where calls may raise -/
abbrev xb (Y : Cx) (E : XK) : Cx := { Y with xe := XC Y E }
section
variable {Y : Cx} {E : XK} {pins : List (Addr × Obj)} {σ : L2.St} {H : Hp} {s : Shared}
theorem xb_to (I : Inv (xb Y E) pins σ H s) : Inv Y pins σ H s :=
  ⟨⟨I.ok.mod, I.ok.kind, I.ok.glob, I.ok.blt, I.ok.above, I.ok.inj, I.ok.has, I.ok.cab, I.ok.hd, I.ok.frames, I.ok.stk, I.ok.exf, I.ok.bs, I.ok.bsz, I.ok.noex, I.ok.exfs, I.ok.funs, I.ok.frf⟩, I.os, I.bare, I.base, I.loc, I.cell, I.free, I.freeC, I.pin, I.hok, I.len⟩
theorem xb_of (I : Inv Y pins σ H s) : Inv (xb Y E) pins σ H s :=
  ⟨⟨I.ok.mod, I.ok.kind, I.ok.glob, I.ok.blt, I.ok.above, I.ok.inj, I.ok.has, I.ok.cab, I.ok.hd, I.ok.frames, I.ok.stk, I.ok.exf, I.ok.bs, I.ok.bsz, I.ok.noex, I.ok.exfs, I.ok.funs, I.ok.frf⟩, I.os, I.bare, I.base, I.loc, I.cell, I.free, I.freeC, I.pin, I.hok, I.len⟩
end
/-- a call within the block may raise -/
theorem passC {Y : Cx} {E : XK} : Passes (L2.CX Y.prog Y.w) (xb Y E) E := fun pins σ H s _ _ I c => ⟨pins, σ, H, s, xb_to I, c⟩
theorem noted_as {e : Value} {env env' : Env} (h : env.frame = env'.frame) : noteFrame e env = noteFrame e env' := by
  unfold noteFrame PySem.frameOf
  rw [h]
theorem frames_as {B B' h h' : Heap} : ∀ {l : List Env}, (∀ L ∈ frs l, B'.get? L = none) → (∀ L ∈ frs l, h'.get? L = h.get? L) → h.FunFrames B l → h'.FunFrames B' l
  | [], _, _, _ => trivial
  | env :: l, hn, hs, ⟨hk, ⟨L, o, hf, _, ho, hd⟩, hr⟩ => by
    have hL : L ∈ frs (env :: l) := List.mem_filterMap.mpr ⟨env, List.mem_cons_self, hf⟩
    have sub : ∀ b ∈ frs l, b ∈ frs (env :: l) := fun b hb => by
      obtain ⟨e, he, q⟩ := List.mem_filterMap.mp hb
      exact List.mem_filterMap.mpr ⟨e, List.mem_cons_of_mem _ he, q⟩
    exact ⟨hk, ⟨L, o, hf, hn L hL, (hs L hL).trans ho, hd⟩, frames_as (fun b hb => hn b (sub b hb)) (fun b hb => hs b (sub b hb)) hr⟩
/-- how a comprehension's block ends -/
def CPost (M : Model) (A : Around) (E : Value → Shared → Prop) (Q : Value → Shared → Prop) (acc : Value) (ce : Env) (r : Result) (t : Shared) : Prop :=
  match r with
  | .ok _ => ∃ m, t.heap.Ns ce.locals m ∧ ∀ h', Heap.SameBut ce.locals t.heap h' → Q acc { t with heap := h' }
  | .error x => ∃ m, t.heap.Ns ce.locals m ∧ ∀ h', Heap.SameBut ce.locals t.heap h' → wpAny M A (passOn "comprehension.variables-let-go" x ce : Sem Value) Q E { t with heap := h' }
theorem comp_cx {M : Model} {A : Around} {E : Value → Shared → Prop} {s : Shared} {env : Env} {e : Expr} {scope : Scope} {pos : Pos} {newAcc first : Sem Value} {g : Comprehension} {gs : List Comprehension} {cl : List (Str × Addr)} {Q : Value → Shared → Prop}
    (h1 : clausesOf e = g :: gs) (h2 : ∀ x, foldedSetIterable g.iter env x = pure x) (h3 : closureFor scope env = pure cl) (h4 : scope.kind = .function) (h5 : ∀ x ∈ scope.names, x.2 = .local → scope.names.lookup x.1 = some .local)
    (h : wpAny M A first (fun x t1 => wpAny M A (pyIter x) (fun it t2 => wpAny M A newAcc (fun acc t3 => wpAny M A (newFunctionEnv scope env.globals cl [] env.qual none .none (some env)) (fun ce t4 =>
      codeAny M A (.compStart e 0 it acc { ce with scope := relabel scope env }) (CPost M A E Q acc { ce with scope := relabel scope env }) t4) E t3) E t2) E t1) E s) :
    wpAny M A (comprehension e scope env pos newAcc false first none) Q E s := by
  unfold comprehension
  rw [h3, h1]
  refine wpAny_bind (wpAny_mono h (fun x t1 k1 => ?_) fun _ _ z => z)
  refine wpAny_bind (wpAny_standAt (wpAny_bind (wpAny_of_eq (h2 x) ?_)))
  refine wpAny_bind (wpAny_holding (wpAny_mono k1 (fun it t2 k2 => ?_) fun _ _ z => z))
  refine wpAny_standIf (wpAny_bind (wpAny_mono k2 (fun acc t3 k3 => ?_) fun _ _ z => z))
  refine wpAny_bind (wpAny_pure (wpAny_bind (wpAny_mono k3 (fun ce t4 k4 => ?_) fun _ _ z => z)))
  dsimp only
  have hv : ∀ x ∈ (scope.names.filter fun x => (x.2 == .local || x.2 == .cell) && x.1 != (".0" : Str)).reverse, x.2 = .local → Env.kindOf { ce with scope := relabel scope env } x.1 = some .local := fun x hx hl =>
    lookup_relabel_local (h5 x (List.mem_filter.mp (List.mem_reverse.mp hx)).1 hl)
  refine wpAny_holding (wpAny_bind (wpAny_attempt (wpAny_holding (wpAny_run (codeAny_mono k4 fun r t hr => ?_)))))
  cases r with
  | ok f =>
    obtain ⟨m, hn, q⟩ := hr
    refine wpAny_bind (wpAny_holding (wpAny_comp_letGo (cenv := { ce with scope := relabel scope env }) h4 _ t m hv hn fun h' m' _ sb => ?_))
    exact wpAny_pure (q h' sb)
  | error x =>
    obtain ⟨m, hn, q⟩ := hr
    exact wpAny_bind (wpAny_holding (wpAny_comp_letGo (cenv := { ce with scope := relabel scope env }) h4 _ t m hv hn fun h' m' _ sb => q h' sb))
section
variable {X : Cx} {W : WX} {E : XK} {pins : List (Addr × Obj)} {σ : L2.St} {H3 : Hp} {s3 : Shared}
/-- the exception of a call within the block: noted, the block's names let go, raised on -/
theorem blk_out {scope : Scope} {ce : Env} {fp : List Addr} {acc : Value} {Q : Value → Shared → Prop} {E2 : Value → Shared → Prop} {u : Value} {t : Shared} (tk : Takes X W) (hW : ∀ cls d σ H, E cls d H → W cls d σ H) (hst : X.stack = X.env :: X.outer) (hf : X.env.frame = some X.env.locals)
    (I3 : Inv X pins σ H3 s3) (f3 : ∀ b ∈ fp, FpOk X pins H3 b ∧ b < s3.heap.objs.size) (hC : ce.locals = s3.heap.objs.size) (hcf : ce.frame = X.env.frame) (h : XC (X.blk s3 H3 scope ce fp) E u t) :
    wpAny (model X.prog X.w) X.A (noteFrame u ce) (fun _ t1 => CPost (model X.prog X.w) X.A X.xe Q acc ce (.error u) t1) E2 t := by
  obtain ⟨py, σy, H, s, Iy, a, B, H', cls, d, rfl, fl, hok, ub, na, os, ag, hE⟩ := h
  have fl : HandSPX.FlyingZ B X.stack a (Zc cls d) t.heap := fl
  have ub : UB (frs X.stack) H H' s.heap B t.heap := ub
  have hfr : X.A.frames = some (X.env :: X.outer) := by rw [I3.ok.frames, hst]
  generalize hCe : ce.locals = C at hC
  -- the block's own object
  have hlow : ∀ b o, s3.heap.get? b = some o → b ≠ C := fun b o e z => by
    rw [z, hC] at e
    exact absurd (Heap.lt_size e) (Nat.lt_irrefl _)
  have nfr : ∀ b ∈ frs X.stack, b ≠ C := fun b hb => by
    obtain ⟨_, o, e, _⟩ := I3.stack.mem hb
    exact hlow b o e
  have Cfr : C ∉ frs X.stack := fun hb => nfr C hb rfl
  have HC : H C = none := by
    have z : H ce.locals = none := Iy.free
    rw [hCe] at z
    exact z
  obtain ⟨m, hn, _⟩ := Iy.loc
  have hn : s.heap.Ns ce.locals m := hn
  rw [hCe] at hn
  obtain ⟨oC, es, ep, eC, rC⟩ := hn
  have BC : B.get? C = some oC := ub.keep C oC eC HC Cfr
  have H'C : H' C = none := ub.free C oC eC HC
  rw [noted_as hcf]
  rw [hst] at fl
  refine HandSPX.looks_onZ Zc.steady hfr hf fl fun h1 hh up1 => ?_
  rw [← hst] at hh
  obtain ⟨k1, k2, k3, oe, vs, T, oT, ts, he, hz, hd, hv, hnT, hTe, hT, hdT, h3⟩ := hh
  have aC : a ≠ C := fun z => by rw [z, BC] at k2; cases k2
  have TC : T ≠ C := fun z => by rw [z, BC] at hnT; cases hnT
  show CPost _ _ _ _ _ _ (.error (.ref a)) _
  refine ⟨m, ?_, fun h' sb => ?_⟩
  · rw [hCe]
    exact ⟨oC, es, ep, k1 _ _ BC, rC⟩
  rw [hCe] at sb
  -- the ground without the block's object
  obtain ⟨G, g1, g2⟩ := restrict B fun b => decide (b ≠ C)
  have gB : ∀ b o, G.get? b = some o → b ≠ C ∧ B.get? b = some o := fun b o e => by
    by_cases hb : b = C
    · rw [g2 b (by simp [hb])] at e
      cases e
    · rw [g1 b (by simp [hb])] at e
      exact ⟨hb, e⟩
  have Bg : ∀ b o, b ≠ C → B.get? b = some o → G.get? b = some o := fun b o hb e => by
    rw [g1 b (by simp [hb])]
    exact e
  have gN : ∀ b, B.get? b = none → G.get? b = none := fun b e => by
    cases q : G.get? b with
    | none => rfl
    | some o =>
      rw [(gB b o q).2] at e
      cases e
  have held : HandSPX.HeldZ G X.stack a (Zc cls d) X.env.locals h' := by
    refine ⟨fun b o e => ?_, gN a k2, frames_as (fun L hL => gN L (k3.mem hL).1) (fun L hL => sb.2 L (nfr L hL)) k3, oe, vs, T, oT, ts, (sb.2 a aC).trans he, hz, hd, hv, gN T hnT, hTe, (sb.2 T TC).trans hT, hdT, h3⟩
    exact (sb.2 b (gB b o e).1).trans (k1 b o (gB b o e).2)
  unfold PySem.passOn
  obtain ⟨_, _, _, oe', vs', T', oT', ts', he', _, hd', hv', _⟩ := id held
  refine wpAny_bind (wpAny_field (s := { t with heap := h' }) he' hd' hv' ?_)
  rw [if_neg (show ¬ ((Value.ref T' == Value.none) = true) from by simp)]
  have fin : wpAny (model X.prog X.w) X.A (setFlight (.ref a) ce.frame) (fun _ s7 => wpAny (model X.prog X.w) X.A (throw (.ref a) : Sem Value) Q X.xe s7) X.xe { t with heap := h' } := by
    rw [hcf, hf]
    refine HandSPX.setFlight_onZ held fun h2 hh2 up2 => wpAny_throw (tk _ _ ?_)
    -- the state ahead of the exception
    obtain ⟨S, q1, q2⟩ := restrict h2 fun b => (G.get? b).isSome || decide (b ∈ frs X.stack)
    have gS : ∀ b o, G.get? b = some o → S.get? b = some o := fun b o e => by
      rw [q1 b (by simp [e])]
      exact hh2.1 b o e
    have fS : ∀ b, b ∈ frs X.stack → S.get? b = h2.get? b := fun b hb => q1 b (by simp [hb])
    have oS : ∀ b o, S.get? b = some o → h2.get? b = some o ∧ ((G.get? b).isSome = true ∨ b ∈ frs X.stack) := fun b o e => by
      cases z : ((G.get? b).isSome || decide (b ∈ frs X.stack)) with
      | false =>
        rw [q2 b z] at e
        cases e
      | true =>
        rw [q1 b z] at e
        exact ⟨e, by simpa [Bool.or_eq_true] using z⟩
    have slotF : ∀ b o, s3.heap.get? b = some o → H3 b = none → b ∈ frs X.stack → b ∉ fp → ∃ sl, S.get? b = some { o with slots := sl } := fun b o e n hb hx => by
      obtain ⟨_, o', e', hnf⟩ := I3.stack.mem hb
      rw [e] at e'
      cases e'
      obtain ⟨sl1, e1⟩ := Iy.base.slot b o e n hb hx
      obtain ⟨sl2, e2⟩ := ub.slot b _ e1 hb
      obtain ⟨sl3, e3⟩ := up1 b _ e2 hnf
      obtain ⟨sl4, e4⟩ := up2 b _ ((sb.2 b (nfr b hb)).trans e3) hnf
      exact ⟨sl4, by rw [fS b hb]; exact e4⟩
    have okG : HOk X.prog X.w H' G := fun b o q => (hok b o q).stay (fun c v hc r => Bg c v (fun z => by
        rcases hc with hc | hc
        · rw [z] at hc
          rw [← hc, H'C] at q
          cases q
        · rw [z, H'C] at hc
          cases hc) r) (fun _ r => r) fun _ _ r => r
    refine ⟨a, G, { s3 with heap := S, gens := t.gens, drawn := t.drawn, toks := t.toks }, pins, σ, H', cls, d, rfl, ?_, fun b o e hb => ?_, Heap.UpToSlots.of_keeps fun b o e => (oS b o e).1, .inr (.inr hh2), na, os.trans Iy.os, ag, hW _ _ _ _ hE⟩
    · refine I3.call' (ch := fp) rfl ⟨fun b o e n hb hx => ?_, fun b o e n hb hx => slotF b o e n hb hx, fun b o e n hx => ?_, fun b o e hx => ?_, fun b xs e => ub.tups b xs (Iy.base.tups b xs e), fun b o xs e => ub.frzs b o xs (Iy.base.frzs b o xs e), fun b ps e => ?_⟩
        (okG.kept gS) ag fun b hb => ⟨(f3 b hb).1.2.2.2.1, (f3 b hb).1.2.1, (f3 b hb).1.2.2.2.2.1, (f3 b hb).1.2.2.2.2.2⟩
      · exact gS b o (Bg b o (hlow b o e) (ub.keep b o (Iy.base.keep b o e n hb hx) (Iy.base.free b o e n hx) hb))
      · obtain ⟨o', e'⟩ := Iy.base.there b o e hx
        exact ub.free b o' e' (Iy.base.free b o e n hx)
      · by_cases hb : b ∈ frs X.stack
        · obtain ⟨sl, z⟩ := slotF b o e (I3.stkFree b hb) hb hx
          exact ⟨_, z⟩
        · obtain ⟨o', e'⟩ := Iy.base.there b o e hx
          obtain ⟨o2, e2⟩ := ub.there b o' e' hb
          exact ⟨o2, gS b o2 (Bg b o2 (hlow b o e) e2)⟩
      · obtain ⟨m1, e1⟩ := Iy.base.tbls b ps e
        obtain ⟨m2, e2⟩ := ub.tbls b _ e1
        exact ⟨m1 ++ m2, by rw [e2, Array.append_assoc]⟩
    · obtain ⟨e', z⟩ := oS b o e
      rcases z with z | z
      · obtain ⟨o', q⟩ := Option.isSome_iff_exists.mp z
        have w := gS b o' q
        rw [e] at w
        cases w
        exact q
      · exact absurd z hb
  first
    | exact wpAny_bind (wpAny_pure (wpAny_bind fin))
    | exact wpAny_bind fin
end
section
variable {X : Cx} {W : WX} {E : XK}
theorem pe_lcX {elt tg iter : Expr} {ifs : List Expr} {scope : Scope} {own : List (Str × Nat)} {pos : Pos} {wi : TI} {g : TG} {tt : TT} {te : TE} (tk : Takes X W) (hW : ∀ cls d σ H, E cls d H → W cls d σ H) (hst : X.stack = X.env :: X.outer) (hf : X.env.frame = some X.env.locals)
    (hc : X.calm = true) (hN : X.N.Nodup) (hi : PI X tg iter wi) (ok : BlkOk X.N X.env.scope scope own)
    (hg : ∀ (s : Shared) (H : Hp) (C : Addr) (cl : List (Str × Addr)) (fp : List Addr), PG (X.blk s H scope (compEnvC scope cl C X.env) fp) tg g)
    (ht : ∀ (s : Shared) (H : Hp) (C : Addr) (cl : List (Str × Addr)) (fp : List Addr), PTs (X.blk s H scope (compEnvC scope cl C X.env) fp) ifs tt)
    (he : ∀ (s : Shared) (H : Hp) (C : Addr) (cl : List (Str × Addr)) (fp : List Addr), PE (xb (X.blk s H scope (compEnvC scope cl C X.env) fp) E) elt te) (hs : ∀ x, foldedSetIterable iter X.env x = pure x := by intro _; rfl) :
    PE X (.ListComp elt [⟨tg, iter, ifs, 0⟩] scope pos) (tLc wi g tt te (own.map (·.2))) := by
  refine ⟨fun pins s σ H Q I h => ?_⟩
  rw [eval_ListComp]
  have hfree : ∀ y ∈ scope.names, y.2 = .free → ∃ c, X.env.cells.lookup y.1 = some c := fun y hy e => by
    rcases ok.free y hy e with k | k
    · exact I.ok.has _ (.inl k)
    · exact I.ok.has _ (.inr k)
  refine comp_cx (Q := EP X pins σ Q) rfl hs (closure_ok hfree) ok.kind (fun y hy e => by rw [ok.uniq y hy, e]) (thn (hi.run pins s σ H _ I h) fun xv s1 hx => thn hx fun itv s2 h2 => ?_)
  obtain ⟨it, fp, tn, J, H2, e, I2, T, st2, f2, q⟩ := h2
  subst e
  refine wpAny_newObj_type (newEnv_comp ?_) (by show 0 ≤ sizeLine; decide)
  generalize hD : s2.heap.objs.size = D
  have nD : H2 D = none := I2.hok.fresh (Nat.le_of_eq hD)
  obtain ⟨V, ⟨m0, w0⟩, turn⟩ := q D nD
  generalize hs3 : ({ s2 with heap := s2.heap.push { cls := .type "list", data := .seq ([] : List Value).toArray } } : Shared) = s3
  have h3 : s3.heap = s2.heap.push { cls := .type "list", data := .seq ([] : List Value).toArray } := by rw [← hs3]
  have I3 : Inv X pins σ (upd H2 D (.lst [])) s3 := by
    rw [← hs3]
    refine I2.laid (t' := s2.toks) (fun b o e => Heap.get?_push_of_some _ e) (Nat.le_of_eq hD) ⟨Nat.zero_le _, [], 0, .nil, ?_⟩
    rw [← hD]
    exact Heap.get?_push_size _ rfl
  have below : ∀ b ∈ fp, b < s2.heap.objs.size := fun b hb => let ⟨_, e, _⟩ := T.obj _ _ st2 b hb; Heap.lt_size e
  have f3 : ∀ b ∈ fp, FpOk X pins (upd H2 D (.lst [])) b ∧ b < s3.heap.objs.size := fun b hb => by
    have lt := below b hb
    refine ⟨⟨?_, (f2 b hb).2⟩, by rw [h3, Heap.size_push]; exact Nat.lt_succ_of_lt lt⟩
    rw [upd_ne (by rw [← hD]; exact Nat.ne_of_lt lt)]
    exact (f2 b hb).1
  have st3 : tn 0 s3.heap := T.keep _ _ _ st2 fun b _ o e => by rw [h3]; exact Heap.get?_push_of_some _ e
  have I4 := block_start I3 ok hN f3
  have kg := hg s3 (upd H2 D (.lst [])) s3.heap.objs.size (cellsFrom (s3.heap.objs.size + 1) scope.names (cloFrom X.env.cells scope.names [])) fp
  have kt := ht s3 (upd H2 D (.lst [])) s3.heap.objs.size (cellsFrom (s3.heap.objs.size + 1) scope.names (cloFrom X.env.cells scope.names [])) fp
  have ke := he s3 (upd H2 D (.lst [])) s3.heap.objs.size (cellsFrom (s3.heap.objs.size + 1) scope.names (cloFrom X.env.cells scope.names [])) fp
  show codeAny _ _ (.compStart (.ListComp elt [⟨tg, iter, ifs, 0⟩] scope pos) 0 (.ref it) (.ref D) (compEnvC scope (cellsFrom (s3.heap.objs.size + 1) scope.names (cloFrom X.env.cells scope.names [])) s3.heap.objs.size X.env))
    (CPost (model X.prog X.w) X.A X.xe (EP X pins σ Q) (.ref D) (compEnvC scope (cellsFrom (s3.heap.objs.size + 1) scope.names (cloFrom X.env.cells scope.names [])) s3.heap.objs.size X.env)) { s3 with heap := pushCells (s3.heap.push { cls := .type "dict", data := .dict #[] }) scope.names }
  generalize hce : compEnvC scope (cellsFrom (s3.heap.objs.size + 1) scope.names (cloFrom X.env.cells scope.names [])) s3.heap.objs.size X.env = ce at I4 kg kt ke ⊢
  have cL : ce.locals = s3.heap.objs.size := by subst hce; rfl
  have cF : ce.frame = X.env.frame := by subst hce; rfl
  generalize hH3 : upd H2 D (.lst []) = H3 at I3 I4 kg kt ke w0 f3
  have nfp : ∀ b ∈ fp, H3 b = none := fun b hb => (f3 b hb).1.1
  generalize hs4 : ({ s3 with heap := pushCells (s3.heap.push { cls := .type "dict", data := .dict #[] }) scope.names } : Shared) = s4 at I4 ⊢
  have st4 : tn 0 s4.heap := T.keep _ _ _ st3 fun b _ o e => by rw [← hs4]; exact pushCells_keeps _ _ _ _ (Heap.get?_push_of_some _ e)
  have lie : ∀ {σ' : L2.St} {H' : Hp} {s' : Shared}, Inv (X.blk s3 H3 scope ce fp) [] σ' H' s' → (∀ b ∈ fp, H' b = none) → ∀ b ∈ fp, FpOk (X.blk s3 H3 scope ce fp) [] H' b := fun {σ' H' s'} J hn b hb =>
    ⟨hn b hb, (J.ok.exf b hb).1, J.ok.exfs b hb, .inl hb, fun x c e => (J.ok.exf b hb).2 x c e, fun p hp => absurd (show p ∈ ([] : List (Addr × Obj)) ++ [] from hp) (by simp)⟩
  have loop : codeAny (model X.prog X.w) X.A (.compLoop (.ListComp elt [⟨tg, iter, ifs, 0⟩] scope pos) 0 (.ref it) (.ref D) ce) (CPost (model X.prog X.w) X.A X.xe (EP X pins σ Q) (.ref D) ce) s4 := by
    refine compLoop_any (fun n s' => ∃ i H', Inv (X.blk s3 H3 scope ce fp) [] (wipe σ (own.map (·.2))) H' s' ∧ tn i s'.heap ∧ (∀ b ∈ fp, H' b = none) ∧ V i n H') ?_ m0 ⟨0, H3, I4, st4, nfp, w0⟩
    rintro n s5 ⟨i, H5, I5, st5, n5, w5⟩
    rcases turn i n H5 w5 with ⟨stop, qq⟩ | ⟨go, Nx, hNx, step⟩
    · refine thnF (T.done (X.blk s3 H3 scope ce fp) rfl rfl rfl hc i [] s5 _ H5 (fun _ _ => False) I5 (lie I5 n5) st5 stop) fun r s6 ⟨hr, I6⟩ => ?_
      subst hr
      have I7 : Inv X pins σ H5 s6 := I3.call' (ch := fp) I6.os I6.base I6.hok I6.bare fun b hb => ⟨(f3 b hb).1.2.2.2.1, (f3 b hb).1.2.1, (f3 b hb).1.2.2.2.2.1, (f3 b hb).1.2.2.2.2.2⟩
      have nC : H5 s3.heap.objs.size = none := by
        have z : H5 ce.locals = none := I6.free
        rw [cL] at z
        exact z
      obtain ⟨m, hn, _⟩ := I6.loc
      have hn : s6.heap.Ns ce.locals m := hn
      refine ⟨m, hn, fun h' sb => ?_⟩
      rw [cL] at sb
      obtain ⟨p0, p1, p2, p3, p4, p5⟩ := I3.fpOk (H' := H5) (Nat.le_refl _) nC
      exact ⟨.ref D, H5, I7.turned (t' := s6.toks) (fun b o hb e => (sb.2 b hb).trans e) p0 p1 p3 p4 p5, rfl, qq⟩
    · refine thnF (T.item (X.blk s3 H3 scope ce fp) rfl rfl rfl hc i [] s5 _ H5 (fun _ _ => False) I5 (lie I5 n5) st5 go) fun r s6 ⟨u, hr, h6⟩ => ?_
      subst hr
      refine thnF h6 fun _ s7 ⟨x, H7, I7, r7, y7, st7, n7⟩ => ?_
      have I7' := I7.pinned (lie I7 n7) (T.obj _ _ st7)
      refine thnF (kg.run _ s7 _ H7 x u _ I7' r7 (step x H7 y7)) fun _ s8 ⟨σ8, H8, I8, hw8, q8⟩ => ?_
      refine thnF (kt.run _ s8 σ8 H8 _ I8 q8) fun b s9 ⟨H9, I9, q9⟩ => ?_
      have again : ∀ {s' : Shared} {H' : Hp}, Inv (X.blk s3 H3 scope ce fp) ([] ++ pinsAt fp s7.heap) σ8 H' s' → Nx H' → ∃ m, m < n ∧ ∃ i H', Inv (X.blk s3 H3 scope ce fp) [] (wipe σ (own.map (·.2))) H' s' ∧ tn i s'.heap ∧ (∀ b ∈ fp, H' b = none) ∧ V i m H' := fun {s' H'} J nx => by
        obtain ⟨m', hm, w'⟩ := hNx H' nx
        have pin' : ∀ b ∈ fp, ∀ o, s7.heap.get? b = some o → s'.heap.get? b = some o ∧ H' b = none := fun b hb o e =>
          let z := J.pin (b, o) (List.mem_append_right _ (List.mem_append_right _ (mem_pinsAt hb e)))
          ⟨z.1, z.2.1⟩
        have hl : (wipe σ (own.map (·.2))).length = σ8.length := by rw [← hw8, wipe_length]
        refine ⟨m', hm, i + 1, H', (J.unpinned (pins := [])).weak hl (fun j v e => ?_), T.keep _ _ _ st7 fun b hb o e => (pin' b hb o e).1, fun b hb => ?_, w'⟩
        · rw [← hw8] at e
          exact (wipe_some e).1
        · obtain ⟨o, e, _⟩ := T.obj _ _ st7 b hb
          exact (pin' b hb o e).2
      cases b with
      | false =>
        simp only [Bool.false_eq_true, if_false] at q9 ⊢
        exact again I9 q9
      | true =>
        simp only [if_true] at q9 ⊢
        refine wpAny_mono (ke.run _ s9 σ8 H9 _ (xb_of I9) q9) (fun z s10 ⟨yv, H10, I10, r10, acc, hD10, hz10, nx⟩ => ?_) fun u' t' hx => ?_
        · exact app_ok (X := X.blk s3 H3 scope ce fp) (xb_to I10) hD10 hz10 r10 fun s11 I11 => again I11 nx
        · exact blk_out tk hW hst hf I3 f3 cL cF hx
  exact codeAny_compStart_list loop (T.self X.A 0 _ _ _ st4 loop)
end
end Mine
set_option Elab.async false
set_option linter.all false
set_option maxRecDepth 100000
set_option maxHeartbeats 4000000
/-! {**d, k: v}: a dict display that begins with the pairs of a dict. -/
namespace Mine
open PySem PySem.Calls L2 PyProof.Rows
section
variable {prog : Program} {w : World} {κ : Type} [DecidableEq κ] {knd : KeyKind prog w κ} {A : Around} {E : Value → Shared → Prop} {s : Shared}
/-- a pair is put by its hash -/
theorem put_hash {d : Addr} {kvs : List (κ × Value)} {k : κ} {key v : Value} {Q : Unit → Shared → Prop} (hkey : knd.is k key = true) (hm : s.heap.DictOf knd d kvs) (hz : kvs.length ≤ sizeLine)
    (q : ∀ h', h'.DictOf knd d (stored kvs k v) → Heap.SameBut d s.heap h' → Q () { s with heap := h' }) : wpAny (model prog w) A (dictPut d (knd.hash k) key v) Q E s := by
  obtain ⟨o, es, ep, ho, hc, hd, hk, hp, hn⟩ := hm
  have hes : es.size ≤ sizeLine := by
    have e1 := hp.length
    rw [Array.length_toList] at e1
    omega
  have hidx : (es.findIdx? fun e => knd.is k e.key) = kvs.findIdx? fun kv => decide (kv.1 = k) := by
    rw [← hp.findIdx k]
    obtain ⟨l⟩ := es
    simp
  unfold dictPut
  refine wpAny_bind (wpAny_dictFind_of hkey ho hd hk ?_)
  cases hi : es.findIdx? fun e => knd.is k e.key with
  | some i =>
    have yes := any_of_findIdx_some (hidx ▸ hi)
    refine wpAny_updateDict ho hd (q _ ⟨_, _, ep, Heap.get?_update_self _ ho (Obj.isFreed_of_dict (Obj.data_mapDict hd _)), hc.mapDict _, Obj.data_mapDict hd _, hk.modify _ _, ?_, ?_⟩ (Heap.SameBut.update ..))
    · rw [stored, if_pos yes]
      have hl : (es.toList.findIdx? fun e => knd.is k e.key) = some i := by
        rw [← hi]
        obtain ⟨l⟩ := es
        simp
      have z := hp.modify hn hl v
      obtain ⟨l⟩ := es
      simpa using z
    · rw [stored, if_pos yes, keys_map_store]
      exact hn
  | none =>
    have no : k ∉ kvs.map (·.1) := not_mem_of_findIdx_none (hidx ▸ hi)
    have no' : ¬ (kvs.any fun kv => decide (kv.1 = k)) = true := fun z => by
      obtain ⟨kv, hkv, he⟩ := List.any_eq_true.mp z
      exact no (List.mem_map.mpr ⟨kv, hkv, of_decide_eq_true he⟩)
    refine wpAny_updateDictKeys (hz := hes) ho hd (q _ ⟨_, _, ep + 1, Heap.get?_update_self _ ho (Obj.isFreed_of_dict (Obj.data_mapDictKeys hd _)), hc.mapDictKeys _, Obj.data_mapDictKeys hd _, hk.push hkey _, ?_, ?_⟩ (Heap.SameBut.update ..))
    · rw [stored, if_neg no']
      have z := hp.append hkey (knd.hash k) v
      obtain ⟨l⟩ := es
      simpa using z
    · rw [stored, if_neg no', List.map_append]
      refine List.nodup_append.mpr ⟨hn, by simp, fun a ha b hb e => ?_⟩
      have hb : b = k := by simpa using hb
      rw [e, hb] at ha
      exact no ha
/-- the pairs of a dict go into another one -/
theorem merge_map {d o : Addr} {kvs more : List (κ × Value)} {Q : Unit → Shared → Prop} (hdo : d ≠ o) (hoS : (o == sysModules) = false) (hd : s.heap.DictOf knd d kvs) (ho : s.heap.DictOf knd o more) (hr : ∀ k r, knd.is k (.ref r) = false)
    (hsz : kvs.length + more.length ≤ sizeLine) (hQ : ∀ h', h'.DictOf knd d (merged kvs more) → h'.DictOf knd o more → Heap.SameBut d s.heap h' → Q () { s with heap := h' }) : wpAny (model prog w) A (mergeMapping d (.ref o) false) Q E s := by
  obtain ⟨od, esd, epd, hod, hcd, hdd, hkd, hpd, hnd⟩ := id hd
  obtain ⟨oo, eso, epo, hoo, hco, hdo', hko, hpo, hno⟩ := id ho
  have hlen : more.length = eso.size := by rw [← hpo.length, Array.length_toList]
  have loop : wpAny (model prog w) A (do
      let l ← dictEntries o
      let ep ← dictEpoch o
      forIn (List.range l.size) PUnit.unit fun i (_ : PUnit) => (do
        let l' ← dictEntries o
        match l'[i]? with
        | some e => do
          holding [e.key, e.val] (dictPut d e.hash e.key e.val)
          let ep' ← dictEpoch o
          if (ep' != ep) = true then do
            (unsupported "dict.changed-during-merge" : Sem PUnit)
            pure (ForInStep.yield PUnit.unit)
          else pure (ForInStep.yield PUnit.unit)
        | _ => do
          (unsupported "dict.changed-during-merge" : Sem PUnit)
          pure (ForInStep.yield PUnit.unit) : Sem (ForInStep PUnit))
      pure ()) Q E s := by
    refine wpAny_bind (wpAny_dictEntries hoo hdo' (wpAny_bind (wpAny_dictEpoch hoo hdo' (wpAny_bind ?_))))
    rw [List.range_eq_range']
    refine wpAny_forIn_list _ (fun rest _ s' => ∃ h' i, s' = { s with heap := h' } ∧ rest = List.range' i (eso.size - i) ∧ i ≤ eso.size ∧ h'.DictOf knd d (merged kvs (more.take i)) ∧ h'.get? o = some oo ∧ Heap.SameBut d s.heap h')
      _ ?_ ?_ _ _ ⟨s.heap, 0, rfl, by simp, Nat.zero_le _, by simpa [merged] using hd, hoo, Heap.SameBut.refl _ _⟩
    · rintro x rest b s' ⟨h', i, rfl, hr', hi, hd', hoo', hs'⟩
      have hlt : i < eso.size := by
        refine Nat.lt_of_not_le fun z => ?_
        rw [Nat.sub_eq_zero_of_le z] at hr'
        simp at hr'
      have e : eso.size - i = (eso.size - (i + 1)) + 1 := by omega
      rw [e, List.range'_succ] at hr'
      obtain ⟨rfl, hrest⟩ := List.cons.inj hr'
      refine wpAny_bind (wpAny_dictEntries hoo' hdo' ?_)
      rw [Array.getElem?_eq_getElem hlt]
      obtain ⟨⟨k, v⟩, hkv⟩ : ∃ kv, more[x]? = some kv := ⟨more[x]'(by rw [hlen]; exact hlt), List.getElem?_eq_getElem _⟩
      obtain ⟨hkey, hval⟩ := hpo.get? (e := eso[x]) (by simp [hlt]) hkv
      obtain ⟨k', hkey', hhash⟩ := hko eso[x] (Array.getElem_mem hlt)
      obtain rfl : k' = k := knd.inj _ _ _ hkey' hkey
      show wpAny _ _ (holding [eso[x].key, eso[x].val] (dictPut d eso[x].hash eso[x].key eso[x].val) >>= _) _ _ _
      rw [hhash, hval]
      have few : (merged kvs (more.take x)).length ≤ sizeLine := by
        have e1 := merged_length_le kvs (more.take x)
        rw [List.length_take] at e1
        omega
      refine wpAny_bind (wpAny_holding (put_hash hkey hd' few fun h2 hd2 hs2 => ?_))
      have hoo2 : h2.get? o = some oo := (hs2.2 o (Ne.symm hdo)).trans hoo'
      refine wpAny_bind (wpAny_dictEpoch hoo2 hdo' ?_)
      rw [if_neg (by simp)]
      exact wpAny_pure ⟨h2, x + 1, rfl, hrest, hlt, by rw [merged_take_succ kvs more x (k', v) hkv]; exact hd2, hoo2, hs'.trans hs2⟩
    · rintro b s' ⟨h', i, rfl, hr', hi, hd', hoo', hs'⟩
      have hin : i = eso.size := by
        refine Nat.le_antisymm hi (Nat.le_of_not_lt fun z => ?_)
        have e : eso.size - i = (eso.size - (i + 1)) + 1 := by omega
        rw [e, List.range'_succ] at hr'
        cases hr'
      rw [hin, ← hlen, List.take_length] at hd'
      exact wpAny_pure (hQ h' hd' ⟨oo, eso, epo, hoo', hco, hdo', hko, hpo, hno⟩ hs')
  unfold mergeMapping
  refine wpAny_bind (wpAny_isInstance ho.typeIs isSubtype_dict_dict ?_)
  simp only [if_true]
  refine wpAny_bind (wpAny_specialOf ho.typeIs F.slot_dict_iter.lookup ?_)
  refine wpAny_bind (wpAny_pure ?_)
  simp only [beq_self_eq_true]
  rw [if_neg (by rw [hoS]; exact Bool.false_ne_true)]
  refine wpAny_bind (wpAny_dictEntries hod hdd ?_)
  split
  · refine wpAny_bind (wpAny_dictEntries hoo hdo' (wpAny_bind ?_))
    rw [← Array.forIn_toList]
    refine wpAny_forIn_list _ (fun l _ s' => s' = s ∧ ∀ e ∈ l, e ∈ eso) _ ?_ ?_ _ _ ⟨rfl, fun e he => Array.mem_toList_iff.mp he⟩
    · rintro e rest b s' ⟨rfl, he⟩
      obtain ⟨k, hk, _⟩ := hko e (he e List.mem_cons_self)
      cases hkey : e.key with
      | ref r =>
        rw [hkey, hr] at hk
        cases hk
      | _ => exact wpAny_pure ⟨rfl, fun x hx => he x (List.mem_cons_of_mem _ hx)⟩
    · rintro b s' ⟨rfl, _⟩
      exact loop
  · exact loop
end
/-- no key of ours is a reference -/
theorem mix_ref {P : Program} {w : World} (k : Key) (r : Addr) : (mixKind P w).is k (.ref r) = false := by
  cases h : (mixKind P w).is k (.ref r) with
  | false => rfl
  | true =>
    rcases keyIs_shape (show keyIs k (.ref r) = true from h) with ⟨i, t, _, e⟩ | ⟨x, t, _, e⟩ <;> cases e
/-- {**m, k: v}: m's pairs, then the written one -/
def tStarD (tm tk tv : TE) : TE := fun σ H Q => ∀ d, H d = none → tm σ (upd H d (.dK [])) fun x H1 => ∃ a kvs, x = .ref a ∧ a ≠ d ∧ H1 a = some (.dK kvs) ∧ H1 d = some (.dK []) ∧ ∀ e, H1 e = none →
  tk σ (upd (upd H1 d (.dK (mergeK [] kvs))) e (.dK [])) fun y H2 => tv σ H2 fun z H3 => ∃ k ms, y = kV k ∧ H3 e = some (.dK []) ∧ H3 d = some (.dK ms) ∧ ms.length < 1000 ∧ Q (.ref d) (upd (upd H3 e (.dK [(k, z)])) d (.dK (putK ms k z)))
section
variable {X : Cx} {em ek ev : Expr} {tm tk tv : TE} {pos : Pos}
theorem pe_starD (hm : PE X em tm) (hk : PE X ek tk) (hv : PE X ev tv)
    (hz : (evalEachOpt [none, some ek] X.env).zip ((evalEach [em, ev] X.env).map fun v => do let x ← v; standAt pos; pure x) = [(none, (do let x ← eval em X.env; standAt pos; pure x)), (some (eval ek X.env), (do let x ← eval ev X.env; standAt pos; pure x))] := by rfl) :
    PE X (.Dict [none, some ek] [em, ev] pos) (tStarD tm tk tv) := by
  refine ⟨fun pins s σ H Q I h => ?_⟩
  rw [arm_eval_Dict, hz]
  refine wpAny_bind (wpAny_standAt ?_)
  simp only [dictDisplay, List.forIn_cons, List.forIn_nil, List.isEmpty_nil, if_true, List.nil_append, pure_bind, bind_assoc, List.length_cons, List.length_nil, List.isEmpty_cons, Bool.false_eq_true, if_false]
  refine wpAny_bind (wpAny_alloc ?_)
  have hn := I.hok.fresh (Nat.le_refl s.heap.objs.size)
  have I0 := I.laid (a := s.heap.objs.size) (o := .dK []) (h' := s.heap.push { cls := .type "dict", data := .dict #[] }) (t' := s.toks) (fun _ _ q => Heap.get?_push_of_some _ q) (Nat.le_refl _) (dk_empty s.heap I.big)
  generalize s.heap.objs.size = d at hn I0 ⊢
  refine wpAny_bind (wpAny_holding (wpAny_bind (thn (hm.run pins _ σ _ _ I0 (h d hn)) fun u s1 ⟨x, H1, I1, rx, a, kvs, ex, had, ha, hd, q⟩ => wpAny_bind (wpAny_standAt (wpAny_pure ?_)))))
  subst ex
  obtain rfl : u = Value.ref a := rx
  obtain ⟨za, sa, va, ra, da⟩ := dk_of I1.hok ha
  obtain ⟨zd, sd, vd, rd, dd⟩ := dk_of I1.hok hd
  cases rd
  have la : kvs.length = va.length := Paired.length ra
  refine wpAny_bind (wpAny_onRaise (wpAny_tryCatch (wpAny_onRaise (wpAny_holding (merge_map (knd := mixKind X.prog X.w) (Ne.symm had) sa dd da mix_ref (by rw [List.length_nil]; omega) fun h2 dd2 da2 sb2 => ?_)))))
  have he2 : ∃ q, h2.get? d = some q := let ⟨q, _, _, hq, _⟩ := dd2; ⟨q, hq⟩
  have z2 : (mergeK [] kvs).length ≤ sizeLine := by
    have e := length_mergeK kvs []
    rw [List.length_nil] at e
    omega
  have I2 := d_write (t' := s1.toks) I1 (by rw [hd]; exact True.intro) sb2 he2 (dk_new z2 sd (ra.merge .nil) dd2)
  rw [if_neg (by decide)]
  refine wpAny_bind (wpAny_pure (wpAny_bind (wpAny_pure ?_)))
  simp only [List.isEmpty_cons, Bool.false_eq_true, if_false]
  refine wpAny_bind (wpAny_bind (wpAny_holding ?_))
  have hn2 := I2.hok.fresh (Nat.le_refl h2.objs.size)
  have hn2' : H1 h2.objs.size = none := by
    have z : h2.objs.size ≠ d := fun z => by
      rw [z, upd_same] at hn2
      cases hn2
    rw [upd_ne z] at hn2
    exact hn2
  have I3 := I2.laid (a := h2.objs.size) (o := .dK []) (h' := h2.push { cls := .type "dict", data := .dict #[] }) (t' := s1.toks) (fun _ _ q => Heap.get?_push_of_some _ q) (Nat.le_refl _) (dk_empty h2 I2.big)
  refine wpAny_subDict (knd := mixKind X.prog X.w) (by show 1 ≤ 15; decide) (evalPairs_cons (thn (hk.run pins _ σ _ _ I3 (q h2.objs.size hn2')) fun uk s3 ⟨y, H2, I4, rk, q4⟩ => ?_))
  refine wpAny_bind (thn (hv.run pins s3 σ H2 _ I4 q4) fun uv s4 ⟨z, H3, I5, rv, k, ms, ek, he, hd5, hms, q5⟩ => wpAny_bind (wpAny_standAt (wpAny_pure (evalPairs_nil ?_))))
  subst ek
  obtain ⟨ze, se, ve, re, de⟩ := dk_of I5.hok he
  cases re
  refine ⟨[(k, uv)], ⟨kV_is rk, rfl, trivial⟩, de, fun h6 d6 sb6 => ?_⟩
  have he6 : ∃ q, h6.get? h2.objs.size = some q := let ⟨q, _, _, hq, _⟩ := d6; ⟨q, hq⟩
  have I6 := d_write (t' := s4.toks + 1) I5 (by rw [he]; exact True.intro) sb6 he6 (dk_new (kvs := [(k, z)]) (by show 1 ≤ sizeLine; decide) se (KV.merge (more := [(k, z)]) (kvs := []) (.cons ⟨rfl, rv⟩ .nil) .nil) d6)
  have ned : d ≠ h2.objs.size := fun w => by
    rw [← w] at hn2'
    rw [hd] at hn2'
    cases hn2'
  have hd6 : (upd H3 h2.objs.size (.dK [(k, z)])) d = some (.dK ms) := by rw [upd_ne ned]; exact hd5
  obtain ⟨z7, s7, v7, r7, d7⟩ := dk_of I6.hok hd6
  have l7 : ms.length = v7.length := Paired.length r7
  refine wpAny_bind (wpAny_onRaise (wpAny_holding (merge_map (knd := mixKind X.prog X.w) ned se d7 d6 mix_ref (by show v7.length + 1 ≤ sizeLine; rw [← l7, sizeLine_eq]; omega) fun h8 d8 da8 sb8 => ?_)))
  have he8 : ∃ q, h8.get? d = some q := let ⟨q, _, _, hq, _⟩ := d8; ⟨q, hq⟩
  have I8 := d_write (t' := s4.toks + 1) I6 (by rw [hd6]; exact True.intro) sb8 he8 (dk_new (kvs := putK ms k z) (by have := length_putK ms k z; rw [sizeLine_eq]; omega) s7 (KV.merge (more := [(k, z)]) (.cons ⟨rfl, rv⟩ .nil) r7) d8)
  exact wpAny_pure (wpAny_pure ⟨.ref d, _, I8, rfl, q5⟩)
end
end Mine
set_option Elab.async false
set_option linter.all false
set_option maxRecDepth 100000
set_option maxHeartbeats 4000000
/-! A dict comprehension with two clauses; a walk over the keys of a written dict; a walk whose source is one of two. (The loops follow the kit's own for lists and for one clause.) -/
namespace Mine
open PySem PySem.Calls PySem.Spec PyProof.Rows L2
/-- one of two walks -/
theorem pi_or {X : Cx} {tg l : Expr} {wi wj : TI} (h : PI X tg l wi) (h' : PI X tg l wj) : PI X tg l (fun σ H R => wi σ H R ∨ wj σ H R) :=
  ⟨fun pins s σ H R I q => q.elim (h.run pins s σ H R I) (h'.run pins s σ H R I)⟩
/-! ### the keys of a written dict -/
def Itw (ks : List Str) : It := ⟨fun i _ => i < ks.length, fun i H x H' => H' = H ∧ ∃ k, ks[i]? = some k ∧ x = .str k, fun i _ => ks.length ≤ i⟩
theorem walk_w {ks : List Str} : Walk (Itw ks) ks.length (fun _ => True) (YAt (ks.map V.str)) :=
  ⟨fun _ _ hi _ => hi, fun _ _ => Nat.le_refl _, fun i H x H' _ _ ⟨e, k, e2, e3⟩ => ⟨e, by rw [List.getElem?_map, e2, e3]; rfl⟩⟩
/-- a dict of the written part with these keys in this order -/
structure WDict (K : PySem.W.Frag) (a : Addr) (ks : List Str) : Prop where
  low : (a == sysModules) = false
  at_ : ∃ (es : Array DictEntry) (ep : Nat), K.lookup a = some ⟨.type "dict", none, .dict es ep, #[]⟩ ∧ es.size = ks.length ∧ ∀ (i : Nat) (k : Str), ks[i]? = some k → ∃ (en : DictEntry) (t : Tok), es[i]? = some en ∧ en.key = .str k t
theorem turn_w {P : Program} {w : World} {K : PySem.W.Frag} {tg : Expr} {d : Addr} {ks : List Str} {es : Array DictEntry} {ep : Nat} (it : Addr) (hl : K.lookup d = some ⟨.type "dict", none, .dict es ep, #[]⟩) (hz : es.size = ks.length)
    (hk : ∀ (i : Nat) (k : Str), ks[i]? = some k → ∃ (en : DictEntry) (t : Tok), es[i]? = some en ∧ en.key = .str k t) : Turn P w K tg (Itw ks) [it] it (fun i h => h.IsKeyIter it d i ks.length ep) where
  mem := List.mem_singleton.mpr rfl
  obj := fun i h st b hb => by
    obtain rfl := List.mem_singleton.mp hb
    obtain ⟨oi, e, _, dd⟩ := st
    exact ⟨oi, e, fun v z => by rw [dd] at z; cases z⟩
  keep := fun i h h' st k => st.at fun oi e => k it (List.mem_singleton.mpr rfl) oi e
  item := by
    intro X hP hw hK hc i pins s σ H E I hf st hg
    subst hP hw hK
    obtain ⟨f0, f1, f2, f3, f4, f5⟩ := hf it (List.mem_singleton.mpr rfl)
    have hi : i < ks.length := hg
    obtain ⟨en, t, hen, hkey⟩ := hk i ks[i] (List.getElem?_eq_getElem hi)
    refine next_key_item st (I.kIn _ _ hl) rfl hz hen fun h' st' sb => ?_
    have J : Inv X pins σ H { s with heap := h' } := I.turned (t' := s.toks) (fun b ob hb e => (sb.2 b hb).trans e) f0 f1 f3 f4 f5
    obtain ⟨oi, e, c, dd⟩ := id st'
    exact ⟨en.key, rfl, go_of (s := { s with heap := h' }) e c dd (by decide) ⟨.str ks[i], H, J, ⟨t, hkey⟩, ⟨rfl, ks[i], List.getElem?_eq_getElem hi, rfl⟩, st', fun b hb => (hf b hb).1⟩⟩
  done := by
    intro X hP hw hK hc i pins s σ H E I hf st hg
    subst hP hw hK
    obtain ⟨f0, f1, f2, f3, f4, f5⟩ := hf it (List.mem_singleton.mpr rfl)
    exact next_key_end (I.ok.hd hc) st (I.kIn _ _ hl) rfl hz hg fun h' eb => ⟨rfl, I.turned (t' := s.toks) (fun b ob hb e => eb b ob hb e) f0 f1 f3 f4 f5⟩
  self := fun A i s Q E st h => wpAny_pyIter_keyiter st h
def iWDict (K : PySem.W.Frag) (td : TE) : TI := fun σ H R => td σ H fun x H1 => ∃ d ks, x = .ref d ∧ WDict K d ks ∧ R (Itw ks) H1
theorem pi_wdict {X : Cx} {tg e : Expr} {td : TE} (he : PE X e td) : PI X tg e (iWDict X.K td) := by
  refine ⟨fun pins s σ H R I h => ?_⟩
  refine thn (he.run pins s σ H _ I h) fun u s1 ⟨x, H1, I1, rx, d, ks, ex, ⟨low, es, ep, hl, hz, hk⟩, q⟩ => ?_
  subst ex
  obtain rfl : u = Value.ref d := rx
  refine iter_keys low (I1.kIn _ _ hl) ⟨rfl, rfl, rfl⟩ rfl (pi_one (tk := s1.toks) I1 _ (turn_w _ hl hz hk) ⟨_, Heap.get?_push_size _ rfl, rfl, ?_⟩ q)
  rw [hz] <;> rfl
/-! ### {k: v for a in xs for b in ys} -/
section
variable {prog : Program} {w : World} {A : Around} {R : Result → Shared → Prop} {s : Shared} {kx vx t0 i0 t1 i1 : Expr} {scope : Scope} {pos : Pos} {it : Value} {D : Addr} {env : Env}
abbrev dcx (kx vx t0 i0 t1 i1 : Expr) (scope : Scope) (pos : Pos) : Expr := .DictComp kx vx [⟨t0, i0, [], 0⟩, ⟨t1, i1, [], 0⟩] scope pos
theorem turn_out : compTurn (dcx kx vx t0 i0 t1 i1 scope pos) 0 it (.ref D) env = (do
      standAt i0.pos
      match ← pyNext it with
      | none => pure (.done .next)
      | some v =>
        letOwnedTupleGo t0 it v
        assign t0 env v
        let x ← eval i1 env
        standAt i1.pos
        let x ← foldedSetIterable i1 env x
        let _ ← runOwn (.compStart (dcx kx vx t0 i0 t1 i1 scope pos) 1 (← holding [x] (pyIter x)) (.ref D) env) env
        again (.compLoop (dcx kx vx t0 i0 t1 i1 scope pos) 0 it (.ref D) env)) := by rfl
theorem turn_in : compTurn (dcx kx vx t0 i0 t1 i1 scope pos) 1 it (.ref D) env = (do
      standAt i1.pos
      match ← pyNext it with
      | none => pure (.done .next)
      | some v =>
        letOwnedTupleGo t1 it v
        assign t1 env v
        (do
          let kv ← eval kx env
          let vv ← holding [kv] (eval vx env)
          standAt { kx.pos with endLine := vx.pos.endLine, endCol := vx.pos.endCol }
          holding [kv, vv] (dictSet D kv vv))
        again (.compLoop (dcx kx vx t0 i0 t1 i1 scope pos) 1 it (.ref D) env)) := by rfl
theorem loop_out (hs : ∀ x, foldedSetIterable i1 env x = pure x) (I : Nat → Shared → Prop)
    (turn : ∀ n t, I n t → wpAny (model prog w) A (pyNext it) (fun r t1' => match r with
      | none => R (.ok .next) t1'
      | some v => wpAny (model prog w) A (letOwnedTupleGo t0 it v) (fun _ t2 => wpAny (model prog w) A (assign t0 env v) (fun _ t3 =>
          wpAny (model prog w) A (eval i1 env) (fun x t4 => wpAny (model prog w) A (pyIter x) (fun j t5 =>
            codeAny (model prog w) A (.compStart (dcx kx vx t0 i0 t1 i1 scope pos) 1 j (.ref D) env) (fun r t' => match r with
              | .ok _ => ∃ m, m < n ∧ I m t'
              | .error _ => False) t5) (fun _ _ => False) t4) (fun _ _ => False) t3) (fun _ _ => False) t2) (fun _ _ => False) t1') (fun _ _ => False) t)
    (n : Nat) (h : I n s) : codeAny (model prog w) A (.compLoop (dcx kx vx t0 i0 t1 i1 scope pos) 0 it (.ref D) env) R s := by
  have no : ∀ (x : Value) (t : Shared), False → notedBy (model prog w) A env (fun e s' => R (.error e) s') x t := fun _ _ z => z.elim
  refine codeAny_loop rfl I (fun n t hI => ?_) n h
  show wpAny _ A ((compTurn (dcx kx vx t0 i0 t1 i1 scope pos) 0 it (.ref D) env).onRaise (fun x => do noteFrame x env; theTreesLotGoes x)) _ _ t
  refine wpAny_noted ?_
  rw [turn_out]
  refine wpAny_bind (wpAny_standAt (wpAny_bind (wpAny_mono (turn n t hI) (fun r t1' h1 => ?_) no)))
  cases r with
  | none => exact wpAny_pure h1
  | some v =>
    refine wpAny_bind (wpAny_mono h1 (fun _ t2 h2 => ?_) no)
    refine wpAny_bind (wpAny_mono h2 (fun _ t3 h3 => ?_) no)
    refine wpAny_bind (wpAny_mono h3 (fun x t4 h4 => ?_) no)
    refine wpAny_bind (wpAny_standAt (wpAny_bind (wpAny_of_eq (hs x) (wpAny_bind (wpAny_holding (wpAny_mono h4 (fun j t5 h5 => ?_) no))))))
    refine wpAny_bind (wpAny_runOwn ?_)
    rw [Around.mark_none]
    refine codeAny_mono h5 fun r t' hr => ?_
    cases r with
    | ok f =>
      first
        | exact wpAny_pure ⟨rfl, hr⟩
        | exact wpAny_bind (wpAny_pure (wpAny_pure ⟨rfl, hr⟩))
    | error e => exact hr.elim
theorem loop_in (I : Nat → Shared → Prop)
    (turn : ∀ n t, I n t → wpAny (model prog w) A (pyNext it) (fun r t1' => match r with
      | none => R (.ok .next) t1'
      | some v => wpAny (model prog w) A (letOwnedTupleGo t1 it v) (fun _ t2 => wpAny (model prog w) A (assign t1 env v) (fun _ t3 =>
          wpAny (model prog w) A (eval kx env) (fun y t4 => wpAny (model prog w) A (eval vx env) (fun z t5 =>
            wpAny (model prog w) A (dictSet D y z) (fun _ t6 => ∃ m, m < n ∧ I m t6) (fun _ _ => False) t5) (fun _ _ => False) t4) (fun _ _ => False) t3) (fun _ _ => False) t2) (fun _ _ => False) t1') (fun _ _ => False) t)
    (n : Nat) (h : I n s) : codeAny (model prog w) A (.compLoop (dcx kx vx t0 i0 t1 i1 scope pos) 1 it (.ref D) env) R s := by
  have no : ∀ (x : Value) (t : Shared), False → notedBy (model prog w) A env (fun e s' => R (.error e) s') x t := fun _ _ z => z.elim
  refine codeAny_loop rfl I (fun n t hI => ?_) n h
  show wpAny _ A ((compTurn (dcx kx vx t0 i0 t1 i1 scope pos) 1 it (.ref D) env).onRaise (fun x => do noteFrame x env; theTreesLotGoes x)) _ _ t
  refine wpAny_noted ?_
  rw [turn_in]
  refine wpAny_bind (wpAny_standAt (wpAny_bind (wpAny_mono (turn n t hI) (fun r t1' h1 => ?_) no)))
  cases r with
  | none => exact wpAny_pure h1
  | some v =>
    refine wpAny_bind (wpAny_mono h1 (fun _ t2 h2 => ?_) no)
    refine wpAny_bind (wpAny_mono h2 (fun _ t3 h3 => ?_) no)
    refine wpAny_bind (wpAny_bind (wpAny_mono h3 (fun y t4 h4 => ?_) no))
    refine wpAny_bind (wpAny_holding (wpAny_mono h4 (fun z t5 h5 => ?_) no))
    exact wpAny_bind (wpAny_standAt (wpAny_holding (wpAny_mono h5 (fun _ t6 h6 => wpAny_pure ⟨rfl, h6⟩) no)))
theorem start_in {acc : Value} (h0 : codeAny (model prog w) A (.compLoop (dcx kx vx t0 i0 t1 i1 scope pos) 1 it acc env) R s)
    (h : wpAny (model prog w) A (pyIter it) (fun j t => codeAny (model prog w) A (.compLoop (dcx kx vx t0 i0 t1 i1 scope pos) 1 j acc env) R t) (notedBy (model prog w) A env fun x t => R (.error x) t) s) :
    codeAny (model prog w) A (.compStart (dcx kx vx t0 i0 t1 i1 scope pos) 1 it acc env) R s := by
  refine codeAny_of_tree ?_
  show wpAny _ _ ((compStart (dcx kx vx t0 i0 t1 i1 scope pos) 1 it acc env).onRaise (fun x => do noteFrame x env; standAt theWindowsPlace)) _ _ s
  refine wpAny_notedAt ?_
  unfold compStart
  show wpAny _ _ (ask >>= _) _ _ s
  refine wpAny_bind (wpAny_askSetting (wpAny_ite ?_))
  split
  · first
      | exact wpAny_bind (wpAny_pure (wpAny_pure (And.intro rfl h0)))
      | exact wpAny_pure (And.intro rfl h0)
  · first
      | exact wpAny_bind (wpAny_rule (wpAny_bind (wpAny_standAt (wpAny_bind (wpAny_mono h (fun it' s' h' => wpAny_pure (And.intro rfl h')) fun _ _ x => x)))))
      | (refine wpAny_bind (wpAny_rule ?_); show wpAny _ _ (standAt i1.pos >>= _) _ _ s; exact wpAny_bind (wpAny_standAt (wpAny_bind (wpAny_mono h (fun it' s' h' => wpAny_pure (And.intro rfl h')) fun _ _ x => x))))
end
section
variable {X : Cx}
/-- {k: v for tg in iter for tg1 in iter1}; vs: the block's names, vs1: those of the second target -/
def tDc2 (wi : TI) (g : TG) (wi1 : TI) (g1 : TG) (tk tv : TE) (vs vs1 : List Nat) : TE := fun σ H Q => wi σ H fun J H1 => ∀ D, H1 D = none → ∃ W : Nat → Nat → Hp → Prop, (∃ m, W 0 m (upd H1 D (.dK []))) ∧ ∀ i m H, W i m H →
  (J.stop i H ∧ Q (.ref D) H) ∨ (J.go i H ∧ ∃ Nx : Hp → Prop, (∀ H', Nx H' → ∃ m', m' < m ∧ W (i + 1) m' H') ∧ ∀ x H', J.yld i H x H' → g x (wipe σ vs) H' fun σ2 H2 => wipe σ2 vs = wipe σ vs ∧
    wi1 σ2 H2 fun J1 H4 => ∃ W1 : Nat → Nat → Hp → Prop, (∃ m, W1 0 m H4) ∧ ∀ j k H, W1 j k H →
      (J1.stop j H ∧ Nx H) ∨ (J1.go j H ∧ ∃ Nx1 : Hp → Prop, (∀ H', Nx1 H' → ∃ k', k' < k ∧ W1 (j + 1) k' H') ∧ ∀ x H', J1.yld j H x H' → g1 x (wipe σ2 vs1) H' fun σ3 H5 => wipe σ3 vs1 = wipe σ2 vs1 ∧
        tk σ3 H5 fun y H6 => tv σ3 H6 fun z H7 => ∃ kvs k, y = kV k ∧ H7 D = some (.dK kvs) ∧ kvs.length < sizeLine ∧ Nx1 (upd H7 D (.dK (putK kvs k z)))))
theorem pe_dc2 {kx vx tg iter tg1 iter1 : Expr} {scope : Scope} {own : List (Str × Nat)} {vs1 : List Nat} {pos : Pos} {wi wi1 : TI} {g g1 : TG} {tk tv : TE}
    (hc : X.calm = true) (hN : X.N.Nodup) (hi : PI X tg iter wi) (ok : BlkOk X.N X.env.scope scope own) (hv : ∀ i ∈ vs1, i ∈ own.map (·.2))
    (hg : ∀ (s : Shared) (H : Hp) (C : Addr) (cl : List (Str × Addr)) (fp : List Addr), PG (X.blk s H scope (compEnvC scope cl C X.env) fp) tg g)
    (hi1 : ∀ (s : Shared) (H : Hp) (C : Addr) (cl : List (Str × Addr)) (fp : List Addr), PI (X.blk s H scope (compEnvC scope cl C X.env) fp) tg1 iter1 wi1)
    (hg1 : ∀ (s : Shared) (H : Hp) (C : Addr) (cl : List (Str × Addr)) (fp : List Addr), PG (X.blk s H scope (compEnvC scope cl C X.env) fp) tg1 g1)
    (hk : ∀ (s : Shared) (H : Hp) (C : Addr) (cl : List (Str × Addr)) (fp : List Addr), PE (X.blk s H scope (compEnvC scope cl C X.env) fp) kx tk)
    (he : ∀ (s : Shared) (H : Hp) (C : Addr) (cl : List (Str × Addr)) (fp : List Addr), PE (X.blk s H scope (compEnvC scope cl C X.env) fp) vx tv)
    (hs : ∀ x, foldedSetIterable iter X.env x = pure x := by intro _; rfl) (hs1 : ∀ env x, foldedSetIterable iter1 env x = pure x := by intro _ _; rfl) :
    PE X (.DictComp kx vx [⟨tg, iter, [], 0⟩, ⟨tg1, iter1, [], 0⟩] scope pos) (tDc2 wi g wi1 g1 tk tv (own.map (·.2)) vs1) := by
  refine ⟨fun pins s σ H Q I h => ?_⟩
  rw [arm_eval_DictComp]
  have hfree : ∀ y ∈ scope.names, y.2 = .free → ∃ c, X.env.cells.lookup y.1 = some c := fun y hy e => by
    rcases ok.free y hy e with k | k
    · exact I.ok.has _ (.inl k)
    · exact I.ok.has _ (.inr k)
  refine wpAny_comprehension_free (use := none) rfl hs (closure_ok hfree) ok.kind (fun y hy e => by rw [ok.uniq y hy, e]) (thn (hi.run pins s σ H _ I h) fun xv s1 hx => thn hx fun itv s2 h2 => ?_)
  obtain ⟨it, fp, tn, J, H2, e, I2, T, st2, f2, q⟩ := h2
  subst e
  refine wpAny_newObj_type (newEnv_comp ?_)
  generalize hD : s2.heap.objs.size = D
  have nD : H2 D = none := I2.hok.fresh (Nat.le_of_eq hD)
  obtain ⟨W, ⟨m0, w0⟩, turn⟩ := q D nD
  generalize hs3 : ({ s2 with heap := s2.heap.push { cls := .type "dict", data := .dict #[] } } : Shared) = s3
  have h3 : s3.heap = s2.heap.push { cls := .type "dict", data := .dict #[] } := by rw [← hs3]
  have I3 : Inv X pins σ (upd H2 D (.dK [])) s3 := by
    rw [← hs3]
    refine I2.laid (t' := s2.toks) (fun b o e => Heap.get?_push_of_some _ e) (Nat.le_of_eq hD) ?_
    rw [← hD]
    exact dk_empty s2.heap I2.big
  have below : ∀ b ∈ fp, b < s2.heap.objs.size := fun b hb => let ⟨_, e, _⟩ := T.obj _ _ st2 b hb; Heap.lt_size e
  have f3 : ∀ b ∈ fp, FpOk X pins (upd H2 D (.dK [])) b ∧ b < s3.heap.objs.size := fun b hb => by
    have lt := below b hb
    refine ⟨⟨?_, (f2 b hb).2⟩, by rw [h3, Heap.size_push]; exact Nat.lt_succ_of_lt lt⟩
    rw [upd_ne (by rw [← hD]; exact Nat.ne_of_lt lt)]
    exact (f2 b hb).1
  have st3 : tn 0 s3.heap := T.keep _ _ _ st2 fun b _ o e => by rw [h3]; exact Heap.get?_push_of_some _ e
  have I4 := block_start I3 ok hN f3
  have kg := hg s3 (upd H2 D (.dK [])) s3.heap.objs.size (cellsFrom (s3.heap.objs.size + 1) scope.names (cloFrom X.env.cells scope.names [])) fp
  have ki := hi1 s3 (upd H2 D (.dK [])) s3.heap.objs.size (cellsFrom (s3.heap.objs.size + 1) scope.names (cloFrom X.env.cells scope.names [])) fp
  have kg1 := hg1 s3 (upd H2 D (.dK [])) s3.heap.objs.size (cellsFrom (s3.heap.objs.size + 1) scope.names (cloFrom X.env.cells scope.names [])) fp
  have kk := hk s3 (upd H2 D (.dK [])) s3.heap.objs.size (cellsFrom (s3.heap.objs.size + 1) scope.names (cloFrom X.env.cells scope.names [])) fp
  have ke := he s3 (upd H2 D (.dK [])) s3.heap.objs.size (cellsFrom (s3.heap.objs.size + 1) scope.names (cloFrom X.env.cells scope.names [])) fp
  show codeAny _ _ (.compStart (dcx kx vx tg iter tg1 iter1 scope pos) 0 (.ref it) (.ref D) (compEnvC scope (cellsFrom (s3.heap.objs.size + 1) scope.names (cloFrom X.env.cells scope.names [])) s3.heap.objs.size X.env))
    (compPost (model X.prog X.w) X.A X.xe none (EP X pins σ Q) (.ref D) s3.heap.objs.size) { s3 with heap := pushCells (s3.heap.push { cls := .type "dict", data := .dict #[] }) scope.names }
  generalize hce : compEnvC scope (cellsFrom (s3.heap.objs.size + 1) scope.names (cloFrom X.env.cells scope.names [])) s3.heap.objs.size X.env = ce at I4 kg ki kg1 kk ke ⊢
  have cL : ce.locals = s3.heap.objs.size := by subst hce; rfl
  generalize hH3 : upd H2 D (.dK []) = H3 at I3 I4 kg ki kg1 kk ke w0 f3
  have nfp : ∀ b ∈ fp, H3 b = none := fun b hb => (f3 b hb).1.1
  generalize hs4 : ({ s3 with heap := pushCells (s3.heap.push { cls := .type "dict", data := .dict #[] }) scope.names } : Shared) = s4 at I4 ⊢
  have st4 : tn 0 s4.heap := T.keep _ _ _ st3 fun b _ o e => by rw [← hs4]; exact pushCells_keeps _ _ _ _ (Heap.get?_push_of_some _ e)
  have lie : ∀ {σ' : L2.St} {H' : Hp} {s' : Shared}, Inv (X.blk s3 H3 scope ce fp) [] σ' H' s' → (∀ b ∈ fp, H' b = none) → ∀ b ∈ fp, FpOk (X.blk s3 H3 scope ce fp) [] H' b := fun {σ' H' s'} J hn b hb =>
    ⟨hn b hb, (J.ok.exf b hb).1, J.ok.exfs b hb, .inl hb, fun x c e => (J.ok.exf b hb).2 x c e, fun p hp => absurd (show p ∈ ([] : List (Addr × Obj)) ++ [] from hp) (by simp)⟩
  have loop : codeAny (model X.prog X.w) X.A (.compLoop (dcx kx vx tg iter tg1 iter1 scope pos) 0 (.ref it) (.ref D) ce) (compPost (model X.prog X.w) X.A X.xe none (EP X pins σ Q) (.ref D) s3.heap.objs.size) s4 := by
    refine loop_out (hs1 ce) (fun n s' => ∃ i H', Inv (X.blk s3 H3 scope ce fp) [] (wipe σ (own.map (·.2))) H' s' ∧ tn i s'.heap ∧ (∀ b ∈ fp, H' b = none) ∧ W i n H') ?_ m0 ⟨0, H3, I4, st4, nfp, w0⟩
    rintro n s5 ⟨i, H5, I5, st5, n5, w5⟩
    rcases turn i n H5 w5 with ⟨stop, qq⟩ | ⟨go, Nx, hNx, step⟩
    · refine thnF (T.done (X.blk s3 H3 scope ce fp) rfl rfl rfl hc i [] s5 _ H5 (fun _ _ => False) I5 (lie I5 n5) st5 stop) fun r s6 ⟨hr, I6⟩ => ?_
      subst hr
      have I7 : Inv X pins σ H5 s6 := I3.call' (ch := fp) I6.os I6.base I6.hok I6.bare fun b hb => ⟨(f3 b hb).1.2.2.2.1, (f3 b hb).1.2.1, (f3 b hb).1.2.2.2.2.1, (f3 b hb).1.2.2.2.2.2⟩
      have nC : H5 s3.heap.objs.size = none := by
        have z : H5 ce.locals = none := I6.free
        rw [cL] at z
        exact z
      obtain ⟨m, hn, _⟩ := I6.loc
      have hn : s6.heap.Ns ce.locals m := hn
      rw [cL] at hn
      refine ⟨m, hn, fun h' sb => ?_⟩
      obtain ⟨p0, p1, p2, p3, p4, p5⟩ := I3.fpOk (H' := H5) (Nat.le_refl _) nC
      exact ⟨.ref D, H5, I7.turned (t' := s6.toks) (fun b o hb e => (sb.2 b hb).trans e) p0 p1 p3 p4 p5, rfl, qq⟩
    · refine thnF (T.item (X.blk s3 H3 scope ce fp) rfl rfl rfl hc i [] s5 _ H5 (fun _ _ => False) I5 (lie I5 n5) st5 go) fun r s6 ⟨u, hr, h6⟩ => ?_
      subst hr
      refine thnF h6 fun _ s7 ⟨x, H7, I7, r7, y7, st7, n7⟩ => ?_
      have I7' := I7.pinned (lie I7 n7) (T.obj _ _ st7)
      refine thnF (kg.run _ s7 _ H7 x u _ I7' r7 (step x H7 y7)) fun _ s8 ⟨σ8, H8, I8, hw8, q8⟩ => ?_
      have again : ∀ {σ9 : L2.St} {s' : Shared} {H' : Hp}, Inv (X.blk s3 H3 scope ce fp) ([] ++ pinsAt fp s7.heap) σ9 H' s' → (wipe σ (own.map (·.2))).length = σ9.length → (∀ (j : Nat) v, (wipe σ (own.map (·.2)))[j]? = some (some v) → σ9[j]? = some (some v)) → Nx H' →
          ∃ m, m < n ∧ ∃ i H', Inv (X.blk s3 H3 scope ce fp) [] (wipe σ (own.map (·.2))) H' s' ∧ tn i s'.heap ∧ (∀ b ∈ fp, H' b = none) ∧ W i m H' := fun {σ9 s' H'} J hl hk nx => by
        obtain ⟨m', hm, w'⟩ := hNx H' nx
        have pin' : ∀ b ∈ fp, ∀ o, s7.heap.get? b = some o → s'.heap.get? b = some o ∧ H' b = none := fun b hb o e =>
          let z := J.pin (b, o) (List.mem_append_right _ (List.mem_append_right _ (mem_pinsAt hb e)))
          ⟨z.1, z.2.1⟩
        refine ⟨m', hm, i + 1, H', (J.unpinned (pins := [])).weak hl hk, T.keep _ _ _ st7 fun b hb o e => (pin' b hb o e).1, fun b hb => ?_, w'⟩
        obtain ⟨o, e, _⟩ := T.obj _ _ st7 b hb
        exact (pin' b hb o e).2
      have hl8 : (wipe σ (own.map (·.2))).length = σ8.length := by rw [← hw8, wipe_length]
      have hk9 : ∀ (j : Nat) v, (wipe σ (own.map (·.2)))[j]? = some (some v) → (wipe σ8 vs1)[j]? = some (some v) := fun j v e => by
        rw [← hw8] at e
        obtain ⟨e1, e2⟩ := wipe_some e
        rw [wipe_out fun z => e2 (hv j z)]
        exact e1
      refine thnF (ki.run _ s8 σ8 H8 _ I8 q8) fun xv s10 hx => thnF hx fun itv s11 h11 => ?_
      obtain ⟨it1, fp1, tn1, J1, H11, e1, I11, T1, st11, f11, W1, ⟨m1, w1⟩, turn1⟩ := h11
      subst e1
      have lie1 : ∀ {H' : Hp}, (∀ b ∈ fp1, H' b = none) → ∀ b ∈ fp1, FpOk (X.blk s3 H3 scope ce fp) ([] ++ pinsAt fp s7.heap) H' b := fun hn b hb => ⟨hn b hb, (f11 b hb).2⟩
      have loop1 : codeAny (model X.prog X.w) X.A (.compLoop (dcx kx vx tg iter tg1 iter1 scope pos) 1 (.ref it1) (.ref D) ce)
          (fun r s' => match r with
            | .ok _ => ∃ m, m < n ∧ ∃ i H', Inv (X.blk s3 H3 scope ce fp) [] (wipe σ (own.map (·.2))) H' s' ∧ tn i s'.heap ∧ (∀ b ∈ fp, H' b = none) ∧ W i m H'
            | .error _ => False) s11 := by
        refine loop_in (fun k s' => ∃ j H', Inv (X.blk s3 H3 scope ce fp) ([] ++ pinsAt fp s7.heap) (wipe σ8 vs1) H' s' ∧ tn1 j s'.heap ∧ (∀ b ∈ fp1, H' b = none) ∧ W1 j k H') ?_ m1 ⟨0, H11, I11.weak (wipe_length _ _) (fun j v e => (wipe_some e).1), st11, fun b hb => (f11 b hb).1, w1⟩
        rintro k s12 ⟨j, H12, I12, st12, n12, w12⟩
        rcases turn1 j k H12 w12 with ⟨stop1, nx1⟩ | ⟨go1, Nx1, hNx1, step1⟩
        · refine thnF (T1.done (X.blk s3 H3 scope ce fp) rfl rfl rfl hc j _ s12 (wipe σ8 vs1) H12 (fun _ _ => False) I12 (lie1 n12) st12 stop1) fun r s13 ⟨hr, I13⟩ => ?_
          subst hr
          exact again I13 (hl8.trans (wipe_length σ8 vs1).symm) hk9 nx1
        · refine thnF (T1.item (X.blk s3 H3 scope ce fp) rfl rfl rfl hc j _ s12 (wipe σ8 vs1) H12 (fun _ _ => False) I12 (lie1 n12) st12 go1) fun r s13 ⟨u1, hr, h13⟩ => ?_
          subst hr
          refine thnF h13 fun _ s14 ⟨x1, H14, I14, r14, y14, st14, n14⟩ => ?_
          have I14' := I14.pinned (lie1 n14) (T1.obj _ _ st14)
          refine thnF (kg1.run _ s14 (wipe σ8 vs1) H14 x1 u1 _ I14' r14 (step1 x1 H14 y14)) fun _ s15 ⟨σ15, H15, I15, hw15, q15⟩ => ?_
          have again1 : ∀ {s' : Shared} {H' : Hp}, Inv (X.blk s3 H3 scope ce fp) (([] ++ pinsAt fp s7.heap) ++ pinsAt fp1 s14.heap) σ15 H' s' → Nx1 H' → ∃ m, m < k ∧ ∃ j H', Inv (X.blk s3 H3 scope ce fp) ([] ++ pinsAt fp s7.heap) (wipe σ8 vs1) H' s' ∧ tn1 j s'.heap ∧ (∀ b ∈ fp1, H' b = none) ∧ W1 j m H' := fun {s' H'} K' nx => by
            obtain ⟨m', hm, w'⟩ := hNx1 H' nx
            have pin' : ∀ b ∈ fp1, ∀ o, s14.heap.get? b = some o → s'.heap.get? b = some o ∧ H' b = none := fun b hb o e =>
              let z := K'.pin (b, o) (List.mem_append_right _ (List.mem_append_right _ (mem_pinsAt hb e)))
              ⟨z.1, z.2.1⟩
            refine ⟨m', hm, j + 1, H', K'.unpinned.weak (by rw [← hw15, wipe_length]) (fun j v e => by rw [← hw15] at e; exact (wipe_some e).1), T1.keep _ _ _ st14 fun b hb o e => (pin' b hb o e).1, fun b hb => ?_, w'⟩
            obtain ⟨o, e, _⟩ := T1.obj _ _ st14 b hb
            exact (pin' b hb o e).2
          refine thnF (kk.run _ s15 σ15 H15 _ I15 q15) fun y s16 ⟨yk, H16, I16, r16, q16⟩ => ?_
          refine thnF (ke.run _ s16 σ15 H16 _ I16 q16) fun z s17 ⟨yv, H17, I17, r17, kvs, kk', ek, hD17, hz17, nx⟩ => ?_
          subst ek
          exact d_dictSet (X := X.blk s3 H3 scope ce fp) I17 hD17 hz17 r16 r17 fun s18 I18 => again1 I18 nx
      exact start_in loop1 (T1.self X.A 0 _ _ _ st11 loop1)
  exact codeAny_compStart_dict loop (T.self X.A 0 _ _ _ st4 loop)
/-- two walks, one in the other: P by (outer turn, heap), P1 by (inner turn, heap) -/
theorem dc2_it {J : It} {n : Nat} {G : Hp → Prop} {Y : Nat → Hp → V → Hp → Prop} (w : Walk J n G Y) {g : TG} {wi1 : TI} {g1 : TG} {tk tv : TE} {vs vs1 : List Nat} {σ : L2.St} {H1 : Hp} {D : Addr} {Qd : Hp → Prop} (P : Nat → Hp → Prop) (h0 : P 0 (upd H1 D (.dK [])))
    (hG : ∀ i H, i ≤ n → P i H → G H)
    (hs : ∀ i x H H', i < n → P i H → Y i H x H' → g x (wipe σ vs) H' fun σ2 H2 => wipe σ2 vs = wipe σ vs ∧ wi1 σ2 H2 fun J1 H4 => ∃ W1 : Nat → Nat → Hp → Prop, (∃ m, W1 0 m H4) ∧ ∀ j k H, W1 j k H →
      (J1.stop j H ∧ P (i + 1) H) ∨ (J1.go j H ∧ ∃ Nx1 : Hp → Prop, (∀ H', Nx1 H' → ∃ k', k' < k ∧ W1 (j + 1) k' H') ∧ ∀ x H', J1.yld j H x H' → g1 x (wipe σ2 vs1) H' fun σ3 H5 => wipe σ3 vs1 = wipe σ2 vs1 ∧
        tk σ3 H5 fun y H6 => tv σ3 H6 fun z H7 => ∃ kvs k, y = kV k ∧ H7 D = some (.dK kvs) ∧ kvs.length < sizeLine ∧ Nx1 (upd H7 D (.dK (putK kvs k z))))) (hd : ∀ H, P n H → Qd H) :
    ∃ W : Nat → Nat → Hp → Prop, (∃ m, W 0 m (upd H1 D (.dK []))) ∧ ∀ i m H, W i m H →
      (J.stop i H ∧ Qd H) ∨ (J.go i H ∧ ∃ Nx : Hp → Prop, (∀ H', Nx H' → ∃ m', m' < m ∧ W (i + 1) m' H') ∧ ∀ x H', J.yld i H x H' → g x (wipe σ vs) H' fun σ2 H2 => wipe σ2 vs = wipe σ vs ∧ wi1 σ2 H2 fun J1 H4 => ∃ W1 : Nat → Nat → Hp → Prop, (∃ m, W1 0 m H4) ∧ ∀ j k H, W1 j k H →
        (J1.stop j H ∧ Nx H) ∨ (J1.go j H ∧ ∃ Nx1 : Hp → Prop, (∀ H', Nx1 H' → ∃ k', k' < k ∧ W1 (j + 1) k' H') ∧ ∀ x H', J1.yld j H x H' → g1 x (wipe σ2 vs1) H' fun σ3 H5 => wipe σ3 vs1 = wipe σ2 vs1 ∧
          tk σ3 H5 fun y H6 => tv σ3 H6 fun z H7 => ∃ kvs k, y = kV k ∧ H7 D = some (.dK kvs) ∧ kvs.length < sizeLine ∧ Nx1 (upd H7 D (.dK (putK kvs k z))))) := by
  refine ⟨fun i m H => m = n - i ∧ i ≤ n ∧ P i H, ⟨n, by simp, Nat.zero_le _, h0⟩, ?_⟩
  rintro i m H ⟨rfl, hi, p⟩
  have q := hG i H hi p
  by_cases lt : i < n
  · exact .inr ⟨w.goes i H lt q, P (i + 1), fun H' p' => ⟨n - (i + 1), by omega, rfl, lt, p'⟩, fun x H' y => hs i x H H' lt p (w.yields i H x H' lt q y)⟩
  · obtain rfl : i = n := by omega
    exact .inl ⟨w.stops H q, hd H p⟩
/-- the inner walk -/
theorem dc1_it {J : It} {n : Nat} {G : Hp → Prop} {Y : Nat → Hp → V → Hp → Prop} (w : Walk J n G Y) {g1 : TG} {tk tv : TE} {vs1 : List Nat} {σ2 : L2.St} {H4 : Hp} {D : Addr} {Qd : Hp → Prop} (P : Nat → Hp → Prop) (h0 : P 0 H4) (hG : ∀ i H, i ≤ n → P i H → G H)
    (hs : ∀ i x H H', i < n → P i H → Y i H x H' → g1 x (wipe σ2 vs1) H' fun σ3 H5 => wipe σ3 vs1 = wipe σ2 vs1 ∧ tk σ3 H5 fun y H6 => tv σ3 H6 fun z H7 => ∃ kvs k, y = kV k ∧ H7 D = some (.dK kvs) ∧ kvs.length < sizeLine ∧ P (i + 1) (upd H7 D (.dK (putK kvs k z)))) (hd : ∀ H, P n H → Qd H) :
    ∃ W1 : Nat → Nat → Hp → Prop, (∃ m, W1 0 m H4) ∧ ∀ j k H, W1 j k H → (J.stop j H ∧ Qd H) ∨ (J.go j H ∧ ∃ Nx1 : Hp → Prop, (∀ H', Nx1 H' → ∃ k', k' < k ∧ W1 (j + 1) k' H') ∧ ∀ x H', J.yld j H x H' → g1 x (wipe σ2 vs1) H' fun σ3 H5 => wipe σ3 vs1 = wipe σ2 vs1 ∧
      tk σ3 H5 fun y H6 => tv σ3 H6 fun z H7 => ∃ kvs k, y = kV k ∧ H7 D = some (.dK kvs) ∧ kvs.length < sizeLine ∧ Nx1 (upd H7 D (.dK (putK kvs k z)))) := by
  refine ⟨fun i m H => m = n - i ∧ i ≤ n ∧ P i H, ⟨n, by simp, Nat.zero_le _, h0⟩, ?_⟩
  rintro i m H ⟨rfl, hi, p⟩
  have q := hG i H hi p
  by_cases lt : i < n
  · exact .inr ⟨w.goes i H lt q, P (i + 1), fun H' p' => ⟨n - (i + 1), by omega, rfl, lt, p'⟩, fun x H' y => hs i x H H' lt p (w.yields i H x H' lt q y)⟩
  · obtain rfl : i = n := by omega
    exact .inl ⟨w.stops H q, hd H p⟩
end
end Mine
set_option Elab.async false
set_option linter.all false
set_option maxRecDepth 100000
set_option maxHeartbeats 2000000
/-! Statements and games: what is read. -/
namespace Pz
open PySem L2 Gm
/-- a part of a statement -/
inductive Pt where
  | s (x : Str) | n (v : Int) | e (x : Ex)
def Pt.d : Pt → PyData
  | .s x => .str x
  | .n v => .int v
  | .e x => x.d
theorem Pt.nol : ∀ x : Pt, nol x.d = true
  | .s _ => rfl
  | .n _ => rfl
  | .e x => Ex.nol x
def kindNames (s : Sc) (k : Str) : Option (List Str) := if k = "variable" then some s.vars else if k = "local" then some s.locs else if k = "table" then some s.tabs else if k = "lots" then some s.lots else if k = "asked" then some s.asks else none
def forms : List (Str × List Str) := [("set", ["variable", "expression"]), ("let", ["local", "expression"]), ("draw", ["local", "number"]), ("put", ["table", "expression", "expression"]), ("lot", ["local", "lots", "expression"]), ("ask", ["local", "asked", "expression"]), ("bad", [])]
def words : List Str := ["set", "let", "draw", "put", "lot", "ask", "bad"]
def formOf (w : Str) : List Str := (forms.lookup w).getD []
def canFollow (s : Sc) (k : Str) : Bool := match kindNames s k with
  | none => true
  | some xs => decide (0 < xs.length)
def startsOf (s : Sc) : List Str := words.filter fun w => (formOf w).all (canFollow s)
/-- whether a statement with this first word may stand where k more levels are left -/
def can (s : Sc) (k : Nat) (w : Str) : Bool := if w = "if" ∨ w = "after" then decide (0 < k) else decide (w ∈ startsOf s)
section
variable (ws : List Str) (s : Sc)
def pPart (k : Str) (i : Nat) : Except Nat (Pt × Nat) :=
  if k = "expression" then (match pExpr ws s 7 i with
    | .error j => .error j
    | .ok (e, j) => .ok (.e e, j))
  else if k = "number" then (if (isNum (wd ws i) && decide ((1 : Int) ≤ (numW (wd ws i) : Nat) ∧ ((numW (wd ws i) : Nat) : Int) ≤ 64)) = true then .ok (.n (numW (wd ws i) : Nat), i + 1) else .error i)
  else match kindNames s k with
    | some xs => if decide (wd ws i ∈ xs) = true then .ok (.s (wd ws i), i + 1) else .error i
    | none => .error i
def pParts : List Str → Nat → Except Nat (List Pt × Nat)
  | [], i => .ok ([], i)
  | k :: ks, i => match pPart ws s k i with
    | .error j => .error j
    | .ok (x, j) => match pParts ks j with
      | .error m => .error m
      | .ok (xs, m) => .ok (x :: xs, m)
def mkStm (w : Str) (xs : List Pt) : Stm :=
  if w = "set" then (match xs with | [.s x, .e v] => .set x v | _ => .bad)
  else if w = "let" then (match xs with | [.s x, .e v] => .lt x v | _ => .bad)
  else if w = "draw" then (match xs with | [.s x, .n v] => .draw x v | _ => .bad)
  else if w = "put" then (match xs with | [.s x, .e v, .e u] => .put x v u | _ => .bad)
  else if w = "lot" then (match xs with | [.s x, .s y, .e u] => .lot x y u | _ => .bad)
  else if w = "ask" then (match xs with | [.s x, .s y, .e u] => .ask x y u | _ => .bad)
  else .bad
def pSimple (i : Nat) : Except Nat (Stm × Nat) := match pParts ws s (formOf (wd ws i)) (i + 1) with
  | .error j => .error j
  | .ok (xs, j) => .ok (mkStm (wd ws i) xs, j)
/-- statements as long as one can begin, at most f of them -/
def pLoop (st : Nat → Except Nat (Stm × Nat)) (k : Nat) : Nat → Nat → Except Nat (Blk × Nat)
  | 0, i => .ok (.nil, i)
  | f + 1, i => if can s k (wd ws i) = true then (match st i with
      | .error j => .error j
      | .ok (x, j) => match pLoop st k f j with
        | .error m => .error m
        | .ok (b, m) => .ok (.cons x b, m))
    else .ok (.nil, i)
def pChoice (blk : Nat → Except Nat (Blk × Nat)) (i : Nat) : Except Nat (Stm × Nat) :=
  match pExpr ws s 7 i with
  | .error j => .error j
  | .ok (t, j) => match blk j with
    | .error m => .error m
    | .ok (a, m) => if wd ws m = "end" then .ok (.ite t a .nil, m + 1)
      else if wd ws m = "else" then (match blk (m + 1) with
        | .error q => .error q
        | .ok (b, q) => if b.len = 0 then .error q else if wd ws q = "end" then .ok (.ite t a b, q + 1) else .error q)
      else .error m
def pAfter (blk : Nat → Except Nat (Blk × Nat)) (i : Nat) : Except Nat (Stm × Nat) :=
  match blk i with
  | .error m => .error m
  | .ok (a, m) => if wd ws m = "end" then .ok (.after a, m + 1) else .error m
def pStm : Nat → Nat → Except Nat (Stm × Nat)
  | 0, i => pSimple ws s i
  | k + 1, i => if wd ws i = "if" then pChoice ws s (pLoop ws s (pStm k) k ws.length) (i + 1)
    else if wd ws i = "after" then pAfter ws (pLoop ws s (pStm k) k ws.length) (i + 1)
    else pSimple ws s i
def pBlk (k : Nat) : Nat → Except Nat (Blk × Nat) := pLoop ws s (pStm ws s k) k ws.length
end
/-! ### they go on -/
section
variable {ws : List Str} {s : Sc}
theorem pAtom_lt {i j : Nat} {e : Ex} (h : pAtom ws s i = .ok (e, j)) : i < j := by
  unfold pAtom at h
  split at h
  · cases h; omega
  · split at h
    · cases h; omega
    · split at h
      · cases h; omega
      · cases h
theorem pExpr_lt : ∀ {k i j : Nat} {e : Ex}, pExpr ws s k i = .ok (e, j) → i < j
  | 0, i, j, e, h => pAtom_lt h
  | k + 1, i, j, e, h => by
    unfold pExpr at h
    split at h
    · split at h
      · cases h
      · rename_i h1
        have l1 := pExpr_lt h1
        split at h
        · cases h
        · rename_i h2
          have l2 := pExpr_lt h2
          cases h
          omega
    · split at h
      · split at h
        · split at h
          · cases h
          · rename_i h1
            have l1 := pExpr_lt h1
            cases h
            omega
        · cases h
      · exact pAtom_lt h
theorem pPart_lt {k : Str} {i j : Nat} {x : Pt} (h : pPart ws s k i = .ok (x, j)) : i < j := by
  unfold pPart at h
  split at h
  · split at h
    · cases h
    · rename_i h1
      have := pExpr_lt h1
      cases h
      omega
  · split at h
    · split at h
      · cases h; omega
      · cases h
    · split at h
      · split at h
        · cases h; omega
        · cases h
      · cases h
theorem pParts_le : ∀ {ks : List Str} {i j : Nat} {xs : List Pt}, pParts ws s ks i = .ok (xs, j) → i ≤ j
  | [], i, j, xs, h => by unfold pParts at h; cases h; exact Nat.le_refl _
  | k :: ks, i, j, xs, h => by
    unfold pParts at h
    split at h
    · cases h
    · rename_i h1
      have l1 := pPart_lt h1
      split at h
      · cases h
      · rename_i h2
        have l2 := pParts_le h2
        cases h
        omega
theorem pSimple_lt {i j : Nat} {x : Stm} (h : pSimple ws s i = .ok (x, j)) : i < j := by
  unfold pSimple at h
  split at h
  · cases h
  · rename_i h1
    have := pParts_le h1
    cases h
    omega
theorem pLoop_le {st : Nat → Except Nat (Stm × Nat)} {k : Nat} (hst : ∀ i j x, st i = .ok (x, j) → i ≤ j) : ∀ {f i j : Nat} {b : Blk}, pLoop ws s st k f i = .ok (b, j) → i ≤ j
  | 0, i, j, b, h => by unfold pLoop at h; cases h; exact Nat.le_refl _
  | f + 1, i, j, b, h => by
    unfold pLoop at h
    split at h
    · split at h
      · cases h
      · rename_i h1
        have l1 := hst _ _ _ h1
        split at h
        · cases h
        · rename_i h2
          have l2 := pLoop_le hst h2
          cases h
          omega
    · cases h; exact Nat.le_refl _
theorem pStm_lt : ∀ {k i j : Nat} {x : Stm}, pStm ws s k i = .ok (x, j) → i < j
  | 0, i, j, x, h => pSimple_lt h
  | k + 1, i, j, x, h => by
    have lb : ∀ {i j : Nat} {b : Blk}, pLoop ws s (pStm ws s k) k ws.length i = .ok (b, j) → i ≤ j := fun h => pLoop_le (fun i j x e => Nat.le_of_lt (pStm_lt e)) h
    unfold pStm at h
    split at h
    · unfold pChoice at h
      split at h
      · cases h
      · rename_i h1
        have l1 := pExpr_lt h1
        split at h
        · cases h
        · rename_i h2
          have l2 := lb h2
          split at h
          · cases h; omega
          · split at h
            · split at h
              · cases h
              · rename_i h3
                have l3 := lb h3
                split at h
                · cases h
                · split at h
                  · cases h; omega
                  · cases h
            · cases h
    · split at h
      · unfold pAfter at h
        split at h
        · cases h
        · rename_i h1
          have l1 := lb h1
          split at h
          · cases h; omega
          · cases h
      · exact pSimple_lt h
theorem can_ne {k i : Nat} (h : can s k (wd ws i) = true) (e1 : Str.empty ∉ startsOf s) : wd ws i ≠ Str.empty := fun z => by
  rw [z] at h
  unfold can at h
  rw [if_neg (by decide +kernel)] at h
  exact e1 (of_decide_eq_true h)
theorem empty_starts : Str.empty ∉ startsOf s := fun h => by
  have := (List.mem_filter.mp h).1
  exact absurd this (by decide +kernel)
end
/-! ### how a reading ends -/
def GEnd {α : Type} (d : α → PyData) (C B : Addr) (K : PySem.W.Frag) (p l : Addr) (ws : List Str) (H : Hp) (Q : VK) (E : XK) : Except Nat (α × Nat) → Prop
  | .ok (x, j) => ∀ v H', But p H H' → WAt C H' p l ws j → Dp K H' v (d x) → Q v H'
  | .error j => Ref p B H j E
end Pz
set_option Elab.async false
set_option linter.all false
set_option maxRecDepth 100000
set_option maxHeartbeats 4000000
/-! Small rules: walks whose written part is named; str of a number or a text. -/
namespace Mine
open PySem PySem.Calls L2 PyProof.Rows
section
variable {X : Cx} {tg l : Expr} {tl : TE}
theorem pi_listK (K : PySem.W.Frag) (h : X.K = K) (hl : PE X l tl) : PI X tg l (iList K tl) := by subst h; exact pi_list hl
theorem pi_tupK (K : PySem.W.Frag) (h : X.K = K) (hl : PE X l tl) : PI X tg l (iTup K tl) := by subst h; exact pi_tup hl
def iSeq (K : PySem.W.Frag) (tl : TE) : TI := fun σ H R => iList K tl σ H R ∨ iTup K tl σ H R
theorem pi_seqK (K : PySem.W.Frag) (h : X.K = K) (hl : PE X l tl) : PI X tg l (iSeq K tl) := pi_or (pi_listK K h hl) (pi_tupK K h hl)
theorem ixdK (K : PySem.W.Frag) (w : World) (h : X.K = K) (hw : X.w = w) : IxR X (rIxD K w) := by subst h; subst hw; exact ix_kdict
theorem call_str_part : CallR X (.type "str") (fun xs H Q => (∃ i, xs = [.int i] ∧ i.natAbs.log2 < 1920 ∧ Q (.str (toString i)) H) ∨ ∃ a, xs = [.str a] ∧ Q (.str a) H) :=
  fun pins s σ H xs us Q I r h => h.elim (call_str_int pins s σ H xs us Q I r) (SkE.call_str_str pins s σ H xs us Q I r)
theorem cr_allK (K : PySem.W.Frag) (h : X.K = K) (hc : X.calm = true) : CallR X (.builtin "all") (rAll K) := by subst h; exact cr_all hc
end
end Mine
set_option Elab.async false
set_option linter.all false
set_option maxRecDepth 100000
set_option maxHeartbeats 2000000
/-! The object that reads statements. -/
namespace Pz
open PySem L2 Gm
structure NoA (s : Sc) : Prop where
  v : Str.empty ∉ s.vars
  l : Str.empty ∉ s.locs
  t : Str.empty ∉ s.tabs
  o : Str.empty ∉ s.lots
  a : Str.empty ∉ s.asks
theorem NoA.e {s : Sc} (h : NoA s) : NoE s := ⟨h.v, h.l, h.t⟩
theorem NoA.kind {s : Sc} (h : NoA s) {k : Str} {xs : List Str} (e : kindNames s k = some xs) : Str.empty ∉ xs := by
  unfold kindNames at e
  split at e
  · cases e; exact h.v
  · split at e
    · cases e; exact h.l
    · split at e
      · cases e; exact h.t
      · split at e
        · cases e; exact h.o
        · split at e
          · cases e; exact h.a
          · cases e
/-- the names that each kind of part may be -/
def Names (K : PySem.W.Frag) (H : Hp) (nd : Addr) (s : Sc) : Prop := ∃ kvs, H nd = some (.dK kvs) ∧ ∀ k : Str, match kindNames s k with
  | some xs => ∃ a, valV kvs (.inr k) = some (.ref a) ∧ (SqL K H a (xs.map V.str) ∨ (k = "local" ∧ SqT K H a (xs.map V.str)))
  | none => valV kvs (.inr k) = none
structure RAt (C : Addr) (K : PySem.W.Frag) (H : Hp) (r p : Addr) (s : Sc) : Prop where
  ob : ∃ dx fs nd m st, H r = some (.ins C dx fs) ∧ fs.lookup ("words" : Str) = some (.ref p) ∧ fs.lookup ("names" : Str) = some (.ref nd) ∧ fs.lookup ("meanings" : Str) = some (.ref m) ∧ fs.lookup ("starts" : Str) = some (.ref st) ∧
    (∀ x : Str, x ≠ "words" → x ≠ "names" → x ≠ "meanings" → x ≠ "starts" → fs.lookup x = none) ∧ Names K H nd s ∧ MeanAt K H m s ∧ SqL K H st ((startsOf s).map V.str)
section
variable {K : PySem.W.Frag} {C CW : Addr} {H H' : Hp} {p l r nd : Addr} {ws : List Str} {i : Nat} {s : Sc}
theorem WAt.names (h : WAt CW H p l ws i) (b : But p H H') (N : Names K H nd s) : Names K H' nd s := by
  obtain ⟨kvs, e, f⟩ := N
  refine ⟨kvs, b _ _ e (h.other e fun _ _ _ z => by cases z), fun k => ?_⟩
  have z := f k
  split at z
  · obtain ⟨a, e1, q⟩ := z
    exact ⟨a, e1, q.imp (fun q => h.sqL b q) fun q => ⟨q.1, h.sqT b q.2⟩⟩
  · exact z
theorem WAt.rne (h : WAt CW H p l ws i) (R : RAt C K H r p s) : r ≠ p := fun z => by
  obtain ⟨dx, fs, e1, e2, _⟩ := h.ob
  obtain ⟨dx', fs', nd, m, st, f1, f2, _⟩ := R.ob
  rw [z, e1] at f1
  cases f1
  rw [e2] at f2
  cases f2
  exact h.ne rfl
theorem WAt.rat (h : WAt CW H p l ws i) (b : But p H H') (R : RAt C K H r p s) : RAt C K H' r p s := by
  have ne := h.rne R
  obtain ⟨dx', fs', nd, m, st, f1, f2, f3, f4, f5, f6, f7, f8, f9⟩ := R.ob
  exact ⟨dx', fs', nd, m, st, b _ _ f1 ne, f2, f3, f4, f5, f6, h.names b f7, h.mean b f8, h.sqL b f9⟩
theorem RAt.nomt {m : Str} (R : RAt C K H r p s) (h1 : m ≠ "words" := by decide) (h2 : m ≠ "names" := by decide) (h3 : m ≠ "meanings" := by decide) (h4 : m ≠ "starts" := by decide) : ∃ dx fs, H r = some (.ins C dx fs) ∧ fs.lookup m = none :=
  let ⟨dx, fs, _, _, _, e, _, _, _, _, f, _⟩ := R.ob
  ⟨dx, fs, e, f m h1 h2 h3 h4⟩
theorem RAt.words (R : RAt C K H r p s) : ∃ dx fs, H r = some (.ins C dx fs) ∧ fs.lookup ("words" : Str) = some (.ref p) :=
  let ⟨dx, fs, _, _, _, e, e2, _⟩ := R.ob
  ⟨dx, fs, e, e2⟩
theorem Names.get (N : Names K H nd s) {k : Str} {xs : List Str} (e : kindNames s k = some xs) : ∃ kvs a, H nd = some (.dK kvs) ∧ valV kvs (.inr k) = some (.ref a) ∧ (SqL K H a (xs.map V.str) ∨ (k = "local" ∧ SqT K H a (xs.map V.str))) := by
  obtain ⟨kvs, h, f⟩ := N
  have z := f k
  rw [e] at z
  obtain ⟨a, h1, h2⟩ := z
  exact ⟨kvs, a, h, h1, h2⟩
theorem Names.no (N : Names K H nd s) {k : Str} (e : kindNames s k = none) : ∃ kvs, H nd = some (.dK kvs) ∧ valV kvs (.inr k) = none := by
  obtain ⟨kvs, h, f⟩ := N
  have z := f k
  rw [e] at z
  exact ⟨kvs, h, z⟩
end
/-! ### what the methods promise -/
section
variable (C CW B : Addr) (K : PySem.W.Frag)
def spCanFollow : Sp := fun vs H Q _ => ∃ (r dx nd : Addr) (fs : List (Str × V)) (s : Sc) (k : Str), vs = [.ref r, .str k] ∧ H r = some (.ins C dx fs) ∧ fs.lookup ("names" : Str) = some (.ref nd) ∧ Names K H nd s ∧ Q (.bl (canFollow s k)) H
def spCanStart : Sp := fun vs H Q _ => ∃ (r p : Addr) (s : Sc) (w : Str) (k : Nat), vs = [.ref r, .str w, .int (6 - (k : Int))] ∧ RAt C K H r p s ∧ ∀ H', Same H H' → Q (.bl (can s k w)) H'
/-- a reader at work -/
structure Work (H : Hp) (r p l : Addr) (ws : List Str) (i : Nat) (s : Sc) : Prop where
  R : RAt C K H r p s
  W : WAt CW H p l ws i
  N : NoA s
def spExprM : Sp := fun vs H Q E => ∃ (r p l : Addr) (ws : List Str) (i : Nat) (s : Sc), vs = [.ref r] ∧ Work C CW K H r p l ws i s ∧ GEnd Ex.d CW B K p l ws H Q E (pExpr ws s 7 i)
def kinds : List Str := ["variable", "local", "table", "lots", "asked", "expression", "number"]
def spPart : Sp := fun vs H Q E => ∃ (r p l : Addr) (ws : List Str) (i : Nat) (s : Sc) (k : Str), vs = [.ref r, .str k] ∧ Work C CW K H r p l ws i s ∧ k ∈ kinds ∧ GEnd Pt.d CW B K p l ws H Q E (pPart ws s k i)
def spBlock (k : Nat) : Sp := fun vs H Q E => ∃ (r p l : Addr) (ws : List Str) (i : Nat) (s : Sc), vs = [.ref r, .int (6 - (k : Int))] ∧ Work C CW K H r p l ws i s ∧ GEnd Blk.d CW B K p l ws H Q E (pBlk ws s k i)
def spStatement (k : Nat) : Sp := fun vs H Q E => ∃ (r p l : Addr) (ws : List Str) (i : Nat) (s : Sc), vs = [.ref r, .int (6 - (k : Int))] ∧ Work C CW K H r p l ws i s ∧ can s k (wd ws i) = true ∧ GEnd Stm.d CW B K p l ws H Q E (pStm ws s k i)
def spChoice (k : Nat) : Sp := fun vs H Q E => ∃ (r p l : Addr) (ws : List Str) (i : Nat) (s : Sc), vs = [.ref r, .int (6 - (k : Int))] ∧ Work C CW K H r p l ws i s ∧ GEnd Stm.d CW B K p l ws H Q E (pChoice ws s (pBlk ws s k) i)
theorem Work.go {H H' : Hp} {r p l : Addr} {ws : List Str} {i j : Nat} {s : Sc} (w : Work C CW K H r p l ws i s) (b : But p H H') (W' : WAt CW H' p l ws j) : Work C CW K H' r p l ws j s := ⟨w.W.rat b w.R, W', w.N⟩
end
theorem kind_some {s : Sc} {k : Str} (h : k ∈ kinds) (h1 : k ≠ "expression") (h2 : k ≠ "number") : ∃ xs, kindNames s k = some xs := by
  simp only [kinds, List.mem_cons, List.not_mem_nil, or_false] at h
  rcases h with rfl | rfl | rfl | rfl | rfl | rfl | rfl
  · exact ⟨_, rfl⟩
  · exact ⟨_, rfl⟩
  · exact ⟨_, rfl⟩
  · exact ⟨_, rfl⟩
  · exact ⟨_, rfl⟩
  · exact absurd rfl h1
  · exact absurd rfl h2
theorem GEnd.later {α : Type} {d : α → PyData} {C B : Addr} {K : PySem.W.Frag} {p l : Addr} {ws : List Str} {H H1 : Hp} {Q : VK} {E : XK} {r : Except Nat (α × Nat)} (h : GEnd d C B K p l ws H Q E r) (b : But p H H1) : GEnd d C B K p l ws H1 Q E r := by
  cases r with
  | error j => exact Ref.later h b
  | ok x => exact fun v H' b' w d' => h v H' (b.trans b') w d'
/-! ### a statement from its parts -/
section
variable {ws : List Str} {s : Sc}
theorem part_e {i j : Nat} {x : Pt} (h : pPart ws s "expression" i = .ok (x, j)) : ∃ e, x = .e e := by
  unfold pPart at h
  rw [if_pos rfl] at h
  split at h
  · cases h
  · cases h; exact ⟨_, rfl⟩
theorem part_n {i j : Nat} {x : Pt} (h : pPart ws s "number" i = .ok (x, j)) : ∃ n, x = .n n := by
  unfold pPart at h
  rw [if_neg (by decide), if_pos rfl] at h
  split at h
  · cases h; exact ⟨_, rfl⟩
  · cases h
theorem part_s {k : Str} {i j : Nat} {x : Pt} (h : pPart ws s k i = .ok (x, j)) (h1 : k ≠ "expression" := by decide) (h2 : k ≠ "number" := by decide) : ∃ y, x = .s y := by
  unfold pPart at h
  rw [if_neg h1, if_neg h2] at h
  split at h
  · split at h
    · cases h; exact ⟨_, rfl⟩
    · cases h
  · cases h
theorem parts_cons {k : Str} {ks : List Str} {i j : Nat} {xs : List Pt} (h : pParts ws s (k :: ks) i = .ok (xs, j)) : ∃ x ys m, xs = x :: ys ∧ pPart ws s k i = .ok (x, m) ∧ pParts ws s ks m = .ok (ys, j) := by
  unfold pParts at h
  split at h
  · cases h
  · rename_i x m h1
    split at h
    · cases h
    · rename_i ys q h2
      cases h
      exact ⟨x, ys, m, rfl, h1, h2⟩
theorem parts_nil {i j : Nat} {xs : List Pt} (h : pParts ws s [] i = .ok (xs, j)) : xs = [] := by
  unfold pParts at h
  cases h
  rfl
theorem mk_d {w : Str} {i j : Nat} {xs : List Pt} (hw : w ∈ words) (h : pParts ws s (formOf w) i = .ok (xs, j)) : (mkStm w xs).d = .tuple (.str w :: xs.map Pt.d) := by
  simp only [words, List.mem_cons, List.not_mem_nil, or_false] at hw
  rcases hw with rfl | rfl | rfl | rfl | rfl | rfl | rfl
  · obtain ⟨x, ys, m, rfl, h1, h2⟩ := parts_cons (k := "variable") (ks := ["expression"]) h
    obtain ⟨y, zs, m2, rfl, h3, h4⟩ := parts_cons h2
    obtain rfl := parts_nil h4
    obtain ⟨a, rfl⟩ := part_s h1
    obtain ⟨b, rfl⟩ := part_e h3
    unfold mkStm
    rw [if_pos rfl]
    show (Stm.set a b).d = _
    unfold Stm.d
    rfl
  · obtain ⟨x, ys, m, rfl, h1, h2⟩ := parts_cons (k := "local") (ks := ["expression"]) h
    obtain ⟨y, zs, m2, rfl, h3, h4⟩ := parts_cons h2
    obtain rfl := parts_nil h4
    obtain ⟨a, rfl⟩ := part_s h1
    obtain ⟨b, rfl⟩ := part_e h3
    unfold mkStm
    rw [if_neg (by decide), if_pos rfl]
    show (Stm.lt a b).d = _
    unfold Stm.d
    rfl
  · obtain ⟨x, ys, m, rfl, h1, h2⟩ := parts_cons (k := "local") (ks := ["number"]) h
    obtain ⟨y, zs, m2, rfl, h3, h4⟩ := parts_cons h2
    obtain rfl := parts_nil h4
    obtain ⟨a, rfl⟩ := part_s h1
    obtain ⟨b, rfl⟩ := part_n h3
    unfold mkStm
    rw [if_neg (by decide), if_neg (by decide), if_pos rfl]
    show (Stm.draw a b).d = _
    unfold Stm.d
    rfl
  · obtain ⟨x, ys, m, rfl, h1, h2⟩ := parts_cons (k := "table") (ks := ["expression", "expression"]) h
    obtain ⟨y, zs, m2, rfl, h3, h4⟩ := parts_cons h2
    obtain ⟨z, us, m3, rfl, h5, h6⟩ := parts_cons h4
    obtain rfl := parts_nil h6
    obtain ⟨a, rfl⟩ := part_s h1
    obtain ⟨b, rfl⟩ := part_e h3
    obtain ⟨c, rfl⟩ := part_e h5
    unfold mkStm
    rw [if_neg (by decide), if_neg (by decide), if_neg (by decide), if_pos rfl]
    show (Stm.put a b c).d = _
    unfold Stm.d
    rfl
  · obtain ⟨x, ys, m, rfl, h1, h2⟩ := parts_cons (k := "local") (ks := ["lots", "expression"]) h
    obtain ⟨y, zs, m2, rfl, h3, h4⟩ := parts_cons h2
    obtain ⟨z, us, m3, rfl, h5, h6⟩ := parts_cons h4
    obtain rfl := parts_nil h6
    obtain ⟨a, rfl⟩ := part_s h1
    obtain ⟨b, rfl⟩ := part_s h3
    obtain ⟨c, rfl⟩ := part_e h5
    unfold mkStm
    rw [if_neg (by decide), if_neg (by decide), if_neg (by decide), if_neg (by decide), if_pos rfl]
    show (Stm.lot a b c).d = _
    unfold Stm.d
    rfl
  · obtain ⟨x, ys, m, rfl, h1, h2⟩ := parts_cons (k := "local") (ks := ["asked", "expression"]) h
    obtain ⟨y, zs, m2, rfl, h3, h4⟩ := parts_cons h2
    obtain ⟨z, us, m3, rfl, h5, h6⟩ := parts_cons h4
    obtain rfl := parts_nil h6
    obtain ⟨a, rfl⟩ := part_s h1
    obtain ⟨b, rfl⟩ := part_s h3
    obtain ⟨c, rfl⟩ := part_e h5
    unfold mkStm
    rw [if_neg (by decide), if_neg (by decide), if_neg (by decide), if_neg (by decide), if_neg (by decide), if_pos rfl]
    show (Stm.ask a b c).d = _
    unfold Stm.d
    rfl
  · obtain rfl := parts_nil (s := s) (ws := ws) (i := i) (j := j) h
    unfold mkStm
    rw [if_neg (by decide), if_neg (by decide), if_neg (by decide), if_neg (by decide), if_neg (by decide), if_neg (by decide)]
    unfold Stm.d
    rfl
theorem form_kinds {w k : Str} (hw : w ∈ words) (hk : k ∈ formOf w) : k ∈ kinds := by
  have all : ∀ w ∈ words, ∀ k ∈ formOf w, k ∈ kinds := by decide +kernel
  exact all w hw k hk
theorem parts_snoc : ∀ {ks : List Str} {k : Str} {i j m : Nat} {xs : List Pt} {y : Pt}, pParts ws s ks i = .ok (xs, j) → pPart ws s k j = .ok (y, m) → pParts ws s (ks ++ [k]) i = .ok (xs ++ [y], m)
  | [], k, i, j, m, xs, y, h1, h2 => by
    unfold pParts at h1
    cases h1
    show pParts ws s [k] i = _
    unfold pParts
    rw [h2]
    rfl
  | k0 :: ks, k, i, j, m, xs, y, h1, h2 => by
    obtain ⟨x, ys, q, rfl, e1, e2⟩ := parts_cons h1
    have ih := parts_snoc e2 h2
    show pParts ws s (k0 :: (ks ++ [k])) i = _
    unfold pParts
    rw [e1]
    dsimp only
    rw [ih]
    rfl
theorem parts_nol : ∀ xs : List Pt, nolAll (xs.map Pt.d) = true
  | [] => rfl
  | x :: xs => by show (Gm.nol x.d && nolAll (xs.map Pt.d)) = true; rw [Pt.nol x, parts_nol xs]; rfl
end
end Pz
set_option Elab.async false
set_option linter.all false
set_option maxRecDepth 100000
set_option maxHeartbeats 2000000
/-! Games: what is read. -/
namespace Pz
open PySem L2 Gm
abbrev Row := Str × Int × Int
section
variable (ws : List Str)
def nameAt (taken : List Str) (i : Nat) : Bool := isName (wd ws i) && !decide (wd ws i ∈ taken)
def numAt (lo hi : Int) (i : Nat) : Bool := isNum (wd ws i) && decide (lo ≤ (numW (wd ws i) : Nat) ∧ ((numW (wd ws i) : Nat) : Int) ≤ hi)
def numI (i : Nat) : Int := ((numW (wd ws i) : Nat) : Int)
def pVar (found : List Row) (i : Nat) : Except Nat (Row × Nat) :=
  if nameAt ws (found.map (·.1)) i = true then
    if numAt ws 1 65535 (i + 1) = true then
      if numAt ws 0 (numI ws (i + 1) - 1) (i + 2) = true then .ok ((wd ws i, numI ws (i + 1), numI ws (i + 2)), i + 3) else .error (i + 2)
    else .error (i + 1)
  else .error i
def pMap (found : List Row) (i : Nat) : Except Nat (Row × Nat) :=
  if nameAt ws (found.map (·.1)) i = true then
    if numAt ws 1 64 (i + 1) = true then
      if numAt ws 1 64 (i + 2) = true then .ok ((wd ws i, numI ws (i + 1), numI ws (i + 2)), i + 3) else .error (i + 2)
    else .error (i + 1)
  else .error i
/-- lines of a kind, at most f more -/
def pMany {α : Type} (kind : Str) (one : List α → Nat → Except Nat (α × Nat)) : Nat → List α → Nat → Except Nat (List α × Nat)
  | 0, found, i => .ok (found, i)
  | f + 1, found, i => if wd ws i = kind then (match one found (i + 1) with
      | .error j => .error j
      | .ok (x, j) => pMany kind one f (found ++ [x]) j)
    else .ok (found, i)
def pMore (vars : List Str) : Nat → List Str → Nat → Except Nat (List Str × Nat)
  | 0, found, i => .ok (found, i)
  | f + 1, found, i => if wd ws i = "local" then (if nameAt ws (vars ++ found) (i + 1) = true then pMore vars f (found ++ [wd ws (i + 1)]) (i + 2) else .error (i + 1)) else .ok (found, i)
def pLocals (vars : List Str) (i : Nat) : Except Nat (List Str × Nat) := if nameAt ws vars i = true then pMore ws vars 5 [wd ws i] (i + 1) else .error i
/-- the names around the procedures -/
structure Ctx where
  vars : List Str
  tabs : List Str
  lots : List Str
  asks : List Str
def Ctx.sc (c : Ctx) (locs : List Str) : Sc := ⟨locs, c.vars, c.tabs, c.lots, c.asks⟩
def pProc (c : Ctx) (found : List Pr) (i : Nat) : Except Nat (Pr × Nat) :=
  if nameAt ws (found.map (·.name)) i = true then
    if numAt ws 1 64 (i + 1) = true then
      if numAt ws 1 64 (i + 2) = true then
        match pLocals ws c.vars (i + 3) with
        | .error j => .error j
        | .ok (locs, j) => match pBlk ws (c.sc locs) 6 j with
          | .error m => .error m
          | .ok (b, m) => if wd ws m = "answer" then (match pExpr ws (c.sc locs) 7 (m + 1) with
              | .error q => .error q
              | .ok (e, q) => if wd ws q = "end" then .ok (⟨wd ws i, numI ws (i + 1), numI ws (i + 2), locs, b, e⟩, q + 1) else .error q)
            else .error m
      else .error (i + 2)
    else .error (i + 1)
  else .error i
def pGame (asks : List Str) : Except Nat Ga :=
  match pMany ws "var" (pVar ws) 6 [] 0 with
  | .error j => .error j
  | .ok (vs, j) => match pMany ws "table" (pMap ws) 6 [] j with
    | .error m => .error m
    | .ok (ts, m) => match pMany ws "lots" (pMap ws) 6 [] m with
      | .error n => .error n
      | .ok (os, n) => match pMany ws "proc" (pProc ws ⟨vs.map (·.1), ts.map (·.1), os.map (·.1), asks⟩) 6 [] n with
        | .error q => .error q
        | .ok (ps, q) => if q = ws.length then .ok ⟨vs, ts, os, ps⟩ else .error q
end
theorem isName_empty : isName Str.empty = false := by decide +kernel
theorem nameAt_ne {ws : List Str} {t : List Str} {i : Nat} (h : nameAt ws t i = true) : wd ws i ≠ Str.empty := fun z => by
  unfold nameAt at h
  rw [z, isName_empty] at h
  cases h
/-- what a name makes in the data: the first part of each item -/
def Heads (ds : List PyData) (names : List Str) : Prop := ds.length = names.length ∧ ∀ (i : Nat) (n : Str), names[i]? = some n → ∃ r, ds[i]? = some (.tuple (.str n :: r))
theorem heads_rows (rs : List Row) : Heads (rs.map trip) (rs.map (·.1)) := by
  refine ⟨by rw [List.length_map, List.length_map], fun i n h => ?_⟩
  rw [List.getElem?_map] at h
  obtain ⟨r, e, rfl⟩ := Option.map_eq_some_iff.mp h
  exact ⟨_, by rw [List.getElem?_map, e]; rfl⟩
theorem heads_procs (ps : List Pr) : Heads (ps.map Pr.d) (ps.map (·.name)) := by
  refine ⟨by rw [List.length_map, List.length_map], fun i n h => ?_⟩
  rw [List.getElem?_map] at h
  obtain ⟨r, e, rfl⟩ := Option.map_eq_some_iff.mp h
  exact ⟨_, by rw [List.getElem?_map, e]; rfl⟩
/-! ### what the defs promise -/
section
variable (C CR CG B : Addr) (K : PySem.W.Frag)
def spAnother : Sp := fun vs H Q _ => ∃ (p l f : Addr) (ws : List Str) (i : Nat) (k : Str) (xs : List V), vs = [.ref p, .str k, .ref f] ∧ WAt C H p l ws i ∧ k ≠ Str.empty ∧ SqL K H f xs ∧
  (if wd ws i = k ∧ xs.length ≠ 6 then ∀ H', But p H H' → WAt C H' p l ws (i + 1) → Q (.bl true) H' else Q (.bl false) H)
def spFirst : Sp := fun vs H Q _ => ∃ (a : Addr) (xs : List V) (ds : List PyData) (names : List Str), vs = [.ref a] ∧ (SqL K H a xs ∨ SqT K H a xs) ∧ DpAll K H xs ds ∧ nolAll ds = true ∧ Heads ds names ∧ xs.length < 1000000 ∧
  ∀ L H', Same H H' → H L = none → H' L = some (.lst (names.map V.str)) → Q (.ref L) H'
def spRows (kind : Option Str) (one : List Str → List Row → Nat → Except Nat (Row × Nat)) : Sp := fun vs H Q E => ∃ (p l : Addr) (ws : List Str) (i : Nat) (k : Str), (match kind with | some k' => vs = [.ref p] ∧ k = k' | none => vs = [.ref p, .str k]) ∧ k ≠ Str.empty ∧ WAt C H p l ws i ∧
  GEnd trips C B K p l ws H Q E (pMany ws k (one ws) 6 [] i)
def spLocals : Sp := fun vs H Q E => ∃ (p l a : Addr) (ws : List Str) (i : Nat) (vars : List Str), vs = [.ref p, .ref a] ∧ WAt C H p l ws i ∧ SqL K H a (vars.map V.str) ∧ vars.length ≤ 100 ∧ GEnd strD C B K p l ws H Q E (pLocals ws vars i)
/-- the names around the procedures, in a dict -/
def CtxAt (H : Hp) (nd : Addr) (c : Ctx) : Prop := ∃ a b d e, H nd = some (.dK [(.inr "variable", .ref a), (.inr "table", .ref b), (.inr "lots", .ref d), (.inr "asked", .ref e)]) ∧
  SqL K H a (c.vars.map V.str) ∧ SqL K H b (c.tabs.map V.str) ∧ SqL K H d (c.lots.map V.str) ∧ SqL K H e (c.asks.map V.str)
structure Ctx.Ok (c : Ctx) : Prop where
  v : Str.empty ∉ c.vars
  t : Str.empty ∉ c.tabs
  o : Str.empty ∉ c.lots
  a : Str.empty ∉ c.asks
  vl : c.vars.length ≤ 100
def spReader : Sp := fun vs H Q _ => ∃ (r p nd dx : Addr) (s : Sc), vs = [.ref r, .ref p, .ref nd] ∧ H r = some (.ins CR dx []) ∧ Names K H nd s ∧ s.vars.length ≤ 100 ∧ s.locs.length ≤ 100 ∧ ∀ H', But r H H' → RAt CR K H' r p s → Q .non H'
def spProc : Sp := fun vs H Q E => ∃ (p l nd t : Addr) (ws : List Str) (i : Nat) (c : Ctx) (found : List Pr), vs = [.ref p, .ref nd, .ref t] ∧ WAt C H p l ws i ∧ CtxAt K H nd c ∧ c.Ok ∧ SqL K H t ((found.map (·.name)).map V.str) ∧ GEnd Pr.d C B K p l ws H Q E (pProc ws c found i)
def procsD (ps : List Pr) : PyData := .tuple (ps.map Pr.d)
def spProcs : Sp := fun vs H Q E => ∃ (p l nd : Addr) (ws : List Str) (i : Nat) (c : Ctx), vs = [.ref p, .ref nd] ∧ WAt C H p l ws i ∧ CtxAt K H nd c ∧ c.Ok ∧ GEnd procsD C B K p l ws H Q E (pMany ws "proc" (pProc ws c) 6 [] i)
/-- a game at an address -/
def GameAt (H : Hp) (r : Addr) (g : Ga) : Prop := ∃ dx fs v1 v2 v3 v4, H r = some (.ins CG dx fs) ∧ fs.lookup ("variables" : Str) = some v1 ∧ fs.lookup ("tables" : Str) = some v2 ∧ fs.lookup ("lots" : Str) = some v3 ∧ fs.lookup ("procs" : Str) = some v4 ∧
  (∀ x : Str, x ≠ "variables" → x ≠ "tables" → x ≠ "lots" → x ≠ "procs" → fs.lookup x = none) ∧ Dp K H v1 (trips g.vars) ∧ Dp K H v2 (trips g.tabs) ∧ Dp K H v3 (trips g.lots) ∧ Dp K H v4 (procsD g.procs)
def spGInit : Sp := fun vs H Q _ => ∃ (r dx : Addr) (v1 v2 v3 v4 : V), vs = [.ref r, v1, v2, v3, v4] ∧ H r = some (.ins CG dx []) ∧ ∀ H' fs, But r H H' → H' r = some (.ins CG dx fs) → fs.lookup ("variables" : Str) = some v1 → fs.lookup ("tables" : Str) = some v2 → fs.lookup ("lots" : Str) = some v3 → fs.lookup ("procs" : Str) = some v4 →
  (∀ x : Str, x ≠ "variables" → x ≠ "tables" → x ≠ "lots" → x ≠ "procs" → fs.lookup x = none) → Q .non H'
def spGame : Sp := fun vs H Q E => ∃ (x : Str) (a : Addr) (asks : List Str), vs = [.str x, .ref a] ∧ x.length ≤ 900000 ∧ (toWords x).length < 1000000 ∧ (∀ w ∈ toWords x, w.length ≤ 1000000) ∧ SqT K H a (asks.map V.str) ∧ (∀ w ∈ asks, w.length ≤ 1000000) ∧ asks.length ≤ 1000 ∧
  match pGame (toWords x) (asks.filter isName) with
  | .ok g => ∀ r H', Same H H' → GameAt CG K H' r g → Q (.ref r) H'
  | .error j => ∀ d H', Same H H' → H' d = some (.xd [("at", .int j)]) → E (.ref B) (some d) H'
end
def kv4 (a b d e : V) : List (Key × V) := [((.inr "variable" : Key), a), (.inr "table", b), (.inr "lots", d), (.inr "asked", e)]
theorem merge4 (a b d e : V) : mergeK [] [((.inr "variable" : Key), a), (.inr "table", b), (.inr "lots", d), (.inr "asked", e)] = [(.inr "variable", a), (.inr "table", b), (.inr "lots", d), (.inr "asked", e)] := by rfl
theorem put5 (a b d e f : V) : putK [((.inr "variable" : Key), a), (.inr "table", b), (.inr "lots", d), (.inr "asked", e)] (.inr "local") f = [(.inr "variable", a), (.inr "table", b), (.inr "lots", d), (.inr "asked", e), (.inr "local", f)] := by rfl
theorem names_ctx {K : PySem.W.Frag} {H : Hp} {nd a b d e t : Addr} {c : Ctx} {locs : List Str} (h : H nd = some (.dK [(.inr "variable", .ref a), (.inr "table", .ref b), (.inr "lots", .ref d), (.inr "asked", .ref e), (.inr "local", .ref t)]))
    (ha : SqL K H a (c.vars.map V.str)) (hb : SqL K H b (c.tabs.map V.str)) (hd : SqL K H d (c.lots.map V.str)) (he : SqL K H e (c.asks.map V.str)) (ht : SqT K H t (locs.map V.str)) : Names K H nd (c.sc locs) := by
  refine ⟨_, h, fun k => ?_⟩
  unfold kindNames
  by_cases h1 : k = "variable"
  · subst h1
    exact ⟨a, rfl, .inl ha⟩
  · rw [if_neg h1]
    by_cases h2 : k = "local"
    · subst h2
      exact ⟨t, rfl, .inr ⟨rfl, ht⟩⟩
    · rw [if_neg h2]
      by_cases h3 : k = "table"
      · subst h3
        exact ⟨b, rfl, .inl hb⟩
      · rw [if_neg h3]
        by_cases h4 : k = "lots"
        · subst h4
          exact ⟨d, rfl, .inl hd⟩
        · rw [if_neg h4]
          by_cases h5 : k = "asked"
          · subst h5
            exact ⟨e, rfl, .inl he⟩
          · rw [if_neg h5]
            rw [valV_neg (fun z => h1 (Sum.inr.inj z).symm), valV_neg (fun z => h3 (Sum.inr.inj z).symm), valV_neg (fun z => h4 (Sum.inr.inj z).symm), valV_neg (fun z => h5 (Sum.inr.inj z).symm), valV_neg (fun z => h2 (Sum.inr.inj z).symm)]
            rfl
/-! ### names that were read are names -/
theorem more_ok {ws : List Str} {vars : List Str} : ∀ {f : Nat} {found : List Str} {i j : Nat} {locs : List Str}, Str.empty ∉ found → found.length + f ≤ 6 → pMore ws vars f found i = .ok (locs, j) → Str.empty ∉ locs ∧ locs.length ≤ 6
  | 0, found, i, j, locs, h, hl, e => by
    unfold pMore at e
    cases e
    exact ⟨h, by omega⟩
  | f + 1, found, i, j, locs, h, hl, e => by
    unfold pMore at e
    split at e
    · split at e
      · rename_i h1
        refine more_ok (fun z => ?_) ?_ e
        · rcases List.mem_append.mp z with z | z
          · exact h z
          · exact nameAt_ne h1 (List.mem_singleton.mp z).symm
        · rw [List.length_append]
          show found.length + 1 + f ≤ 6
          omega
      · cases e
    · cases e
      exact ⟨h, by omega⟩
theorem locals_ok {ws : List Str} {vars : List Str} {i j : Nat} {locs : List Str} (e : pLocals ws vars i = .ok (locs, j)) : Str.empty ∉ locs ∧ locs.length ≤ 6 := by
  unfold pLocals at e
  split at e
  · rename_i h1
    exact more_ok (fun z => nameAt_ne h1 (List.mem_singleton.mp z).symm) (Nat.le_refl 6) e
  · cases e
theorem But.all {p : Addr} {H0 H H' : Hp} (h0 : H0 p = none) (s : Same H0 H) (b : But p H H') : Same H0 H' := fun a o e => b a o (s a o e) (ne_of_none e h0)
theorem many_ok {ws : List Str} {α : Type} {k : Str} {nm : α → Str} {one : List α → Nat → Except Nat (α × Nat)} (h1 : ∀ f i x j, one f i = .ok (x, j) → nm x ≠ Str.empty) : ∀ {f : Nat} {found : List α} {i j : Nat} {rs : List α}, (∀ x ∈ found, nm x ≠ Str.empty) → found.length + f ≤ 6 → pMany ws k one f found i = .ok (rs, j) → (∀ x ∈ rs, nm x ≠ Str.empty) ∧ rs.length ≤ 6
  | 0, found, i, j, rs, h, hl, e => by
    unfold pMany at e
    cases e
    exact ⟨h, by omega⟩
  | f + 1, found, i, j, rs, h, hl, e => by
    unfold pMany at e
    split at e
    · split at e
      · cases e
      · rename_i x m hx
        refine many_ok h1 (fun y hy => ?_) ?_ e
        · rcases List.mem_append.mp hy with z | z
          · exact h y z
          · rw [List.mem_singleton.mp z]
            exact h1 _ _ _ _ hx
        · rw [List.length_append]
          show found.length + 1 + f ≤ 6
          omega
    · cases e
      exact ⟨h, by omega⟩
theorem var_name {ws : List Str} (f : List Row) (i : Nat) (x : Row) (j : Nat) (e : pVar ws f i = .ok (x, j)) : x.1 ≠ Str.empty := by
  unfold pVar at e
  split at e
  · rename_i h1
    split at e
    · split at e
      · cases e
        exact nameAt_ne h1
      · cases e
    · cases e
  · cases e
theorem map_name {ws : List Str} (f : List Row) (i : Nat) (x : Row) (j : Nat) (e : pMap ws f i = .ok (x, j)) : x.1 ≠ Str.empty := by
  unfold pMap at e
  split at e
  · rename_i h1
    split at e
    · split at e
      · cases e
        exact nameAt_ne h1
      · cases e
    · cases e
  · cases e
theorem not_empty {rs : List Row} (h : ∀ x ∈ rs, x.1 ≠ Str.empty) : Str.empty ∉ rs.map (·.1) := fun z => by
  obtain ⟨x, hx, e⟩ := List.mem_map.mp z
  exact h x hx e
end Pz
set_option Elab.async false
set_option linter.all false
set_option maxRecDepth 100000
set_option maxHeartbeats 2000000
/-! Games: what is written. -/
namespace Pz
open PySem L2 Gm
def numS (i : Int) : Str := toString i
def eWords : Ex → List Str
  | .num n => [numS n]
  | .loc x => [x]
  | .var x => [x]
  | .has t e => "has" :: t :: eWords e
  | .cell t e => "cell" :: t :: eWords e
  | .op o a b => o :: (eWords a ++ eWords b)
def ptWords : Pt → List Str
  | .s x => [x]
  | .n v => [numS v]
  | .e x => eWords x
mutual
def sWords : Stm → List Str
  | .set x e => "set" :: x :: eWords e
  | .lt l e => "let" :: l :: eWords e
  | .draw l n => ["draw", l, numS n]
  | .put t e f => "put" :: t :: (eWords e ++ eWords f)
  | .lot l o e => "lot" :: l :: o :: eWords e
  | .ask l p e => "ask" :: l :: p :: eWords e
  | .ite e a b => "if" :: (eWords e ++ bWords a ++ (if b.len = 0 then [] else ("else" : Str) :: bWords b) ++ [("end" : Str)])
  | .bad => ["bad"]
  | .after a => "after" :: (bWords a ++ [("end" : Str)])
def bWords : Blk → List Str
  | .nil => []
  | .cons s r => sWords s ++ bWords r
end
def exGood : Nat → Ex → Bool
  | 0, _ => false
  | _ + 1, .num n => decide (0 ≤ n ∧ n ≤ 65535)
  | _ + 1, .loc _ => true
  | _ + 1, .var _ => true
  | k + 1, .has _ e => exGood k e
  | k + 1, .cell _ e => exGood k e
  | k + 1, .op o a b => decide (o ∈ ops) && exGood k a && exGood k b
mutual
def stmGood : Nat → Stm → Bool
  | _, .set _ e => exGood 8 e
  | _, .lt _ e => exGood 8 e
  | _, .draw _ n => decide (0 ≤ n ∧ n ≤ 65535)
  | _, .put _ e f => exGood 8 e && exGood 8 f
  | _, .lot _ _ e => exGood 8 e
  | _, .ask _ _ e => exGood 8 e
  | 0, .ite _ _ _ => false
  | d + 1, .ite e a b => exGood 8 e && blkGood d a && blkGood d b
  | _, .bad => true
  | 0, .after _ => false
  | d + 1, .after a => blkGood d a
def blkGood : Nat → Blk → Bool
  | _, .nil => true
  | d, .cons x r => stmGood d x && blkGood d r
end
def rowWords (k : Str) (rs : List Row) : List Str := rs.flatMap fun r => [k, r.1, numS r.2.1, numS r.2.2]
def moreLocals : List Str → List Str
  | [] => []
  | _ :: r => r.flatMap fun x => ["local", x]
def prWords (p : Pr) : List Str := ([("proc" : Str), p.name, numS p.size, numS p.ans, p.locs.headD Str.empty] : List Str) ++ moreLocals p.locs ++ bWords p.block ++ [("answer" : Str)] ++ eWords p.res ++ [("end" : Str)]
def gWords (g : Ga) : List Str := rowWords "var" g.vars ++ rowWords "table" g.tabs ++ rowWords "lots" g.lots ++ g.procs.flatMap prWords
def small (i : Int) : Bool := decide (0 ≤ i ∧ i ≤ 1000000)
def rowGood (r : Row) : Bool := small r.2.1 && small r.2.2
def prGood (p : Pr) : Bool := small p.size && small p.ans && decide (0 < p.locs.length) && blkGood 6 p.block && exGood 8 p.res
def gGood (g : Ga) : Bool := g.vars.all rowGood && g.tabs.all rowGood && g.lots.all rowGood && g.procs.all prGood
def gText (g : Ga) : Str := Txt.join " " (gWords g)
theorem small_log {i : Int} (h0 : 0 ≤ i) (h : i ≤ 1000000) : i.natAbs.log2 < 1920 := by
  have h1 : i.natAbs < 2 ^ 64 := Nat.lt_of_le_of_lt (show i.natAbs ≤ 1000000 by omega) (by decide)
  exact Nat.lt_of_lt_of_le (PySem.Flt.log2_lt_of (k := 64) (by decide) h1) (by decide)
/-! ### what the defs promise -/
section
variable (CG : Addr) (K : PySem.W.Frag)
def NewL (H : Hp) (Q : VK) (ws : List Str) : Prop := ∀ L H', Same H H' → H L = none → H' L = some (.lst (ws.map V.str)) → Q (.ref L) H'
def spEW (k : Nat) : Sp := fun vs H Q _ => ∃ (v : V) (e : Ex), vs = [v] ∧ Dp K H v e.d ∧ exGood k e = true ∧ (eWords e).length ≤ 1000000 ∧ NewL H Q (eWords e)
def spSW (d : Nat) : Sp := fun vs H Q _ => ∃ (v : V) (x : Stm), vs = [v] ∧ Dp K H v x.d ∧ stmGood d x = true ∧ (sWords x).length ≤ 1000000 ∧ NewL H Q (sWords x)
def spBW (d : Nat) : Sp := fun vs H Q _ => ∃ (v : V) (x : Blk), vs = [v] ∧ Dp K H v x.d ∧ blkGood d x = true ∧ (bWords x).length ≤ 1000000 ∧ NewL H Q (bWords x)
def spCW (d : Nat) : Sp := fun vs H Q _ => ∃ (v : V) (e : Ex) (a b : Blk), vs = [v] ∧ Dp K H v (Stm.ite e a b).d ∧ exGood 8 e = true ∧ blkGood d a = true ∧ blkGood d b = true ∧ (sWords (.ite e a b)).length ≤ 1000000 ∧ NewL H Q (sWords (.ite e a b))
def spRW : Sp := fun vs H Q _ => ∃ (v : V) (k : Str) (rs : List Row), vs = [.str k, v] ∧ Dp K H v (trips rs) ∧ rs.all rowGood = true ∧ (rowWords k rs).length ≤ 1000000 ∧ NewL H Q (rowWords k rs)
def spPW : Sp := fun vs H Q _ => ∃ (v : V) (p : Pr), vs = [v] ∧ Dp K H v p.d ∧ prGood p = true ∧ (prWords p).length ≤ 1000000 ∧ NewL H Q (prWords p)
def spText : Sp := fun vs H Q _ => ∃ (r : Addr) (g : Ga), vs = [.ref r] ∧ GameAt CG K H r g ∧ gGood g = true ∧ (gWords g).length ≤ 1000000 ∧ ((gWords g).map (·.length)).sum ≤ 10000000 ∧ ∀ H', Same H H' → Q (.str (gText g)) H'
end
theorem NewL.same {H H1 : Hp} {Q : VK} {ws : List Str} (h : NewL H Q ws) (s : Same H H1) : NewL H1 Q ws := fun L H' m n e => h L H' (s.trans m) (by
  cases x : H L with
  | none => rfl
  | some o => rw [s _ _ x] at n; cases n) e
/-! ### zip of two tuples, walked -/
theorem walk_zipT {K : PySem.W.Frag} {a b : Addr} {xs ys : List V} {n : Nat} (hn : n = min xs.length ys.length) : Walk (RZ.ItzT K a b) n (fun H => SqT K H a xs ∧ SqT K H b ys) (YPair (fun i => xs[i]?) (fun i => ys[i]?)) := by
  subst hn
  refine ⟨fun i _ hi q => ?_, fun _ q => ⟨xs, ys, q.1, q.2, by omega⟩, fun i H v H' _ q y => ?_⟩
  · exact ⟨xs, ys, xs[i]'(by omega), ys[i]'(by omega), q.1, q.2, List.getElem?_eq_getElem _, List.getElem?_eq_getElem _⟩
  · obtain ⟨T, x, z, h1, h2, h3, h4, h5⟩ := y
    exact ⟨T, x, z, h1, h2, h3, h4 xs q.1, h5 ys q.2⟩
/-! ### statements by their parts -/
structure Simple (x : Stm) (w : Str) (xs : List Pt) : Prop where
  mem : w ∈ words
  d : x.d = .tuple (.str w :: xs.map Pt.d)
  s : sWords x = w :: xs.flatMap ptWords
  k : (formOf w).length = xs.length
  fit : ∀ (i : Nat) (k : Str) (p : Pt), (formOf w)[i]? = some k → xs[i]? = some p → (k = "expression" ∧ ∃ e, p = .e e ∧ exGood 8 e = true) ∨ (k ≠ "expression" ∧ ((∃ y, p = .s y) ∨ ∃ n, p = .n n ∧ 0 ≤ n ∧ n ≤ 65535))
theorem all2 {α β : Type} {R : α → β → Prop} {as : List α} {bs : List β} {a : α} {b : β} (h : R a b) (t : ∀ (i : Nat) x y, as[i]? = some x → bs[i]? = some y → R x y) : ∀ (i : Nat) x y, (a :: as)[i]? = some x → (b :: bs)[i]? = some y → R x y
  | 0, x, y, e1, e2 => by
    obtain rfl : a = x := Option.some.inj e1
    obtain rfl : b = y := Option.some.inj e2
    exact h
  | i + 1, x, y, e1, e2 => t i x y (by simpa using e1) (by simpa using e2)
theorem all2nil {α β : Type} {R : α → β → Prop} : ∀ (i : Nat) (x : α) (y : β), ([] : List α)[i]? = some x → ([] : List β)[i]? = some y → R x y := fun i x y h => by simp at h
def PK (k : Str) (p : Pt) : Prop := (k = "expression" ∧ ∃ e, p = .e e ∧ exGood 8 e = true) ∨ (k ≠ "expression" ∧ ((∃ y, p = .s y) ∨ ∃ n, p = .n n ∧ 0 ≤ n ∧ n ≤ 65535))
theorem pk_s {k y : Str} (h : k ≠ "expression" := by decide) : PK k (.s y) := .inr ⟨h, .inl ⟨y, rfl⟩⟩
theorem pk_n {k : Str} {n : Int} (g : 0 ≤ n ∧ n ≤ 65535) (h : k ≠ "expression" := by decide) : PK k (.n n) := .inr ⟨h, .inr ⟨n, rfl, g⟩⟩
theorem pk_e {e : Ex} (g : exGood 8 e = true) : PK "expression" (.e e) := .inl ⟨rfl, e, rfl, g⟩
theorem simple_of {d : Nat} {x : Stm} (g : stmGood d x = true) (h1 : ∀ e a b, x ≠ .ite e a b) (h2 : ∀ a, x ≠ .after a) : ∃ w xs, Simple x w xs := by
  cases x with
  | set y e =>
    have g : exGood 8 e = true := by cases d <;> (unfold stmGood at g; exact g)
    exact ⟨"set", [.s y, .e e], by decide, by unfold Stm.d; rfl, by unfold sWords; simp [ptWords], rfl, all2 (R := PK) pk_s (all2 (pk_e g) all2nil)⟩
  | lt y e =>
    have g : exGood 8 e = true := by cases d <;> (unfold stmGood at g; exact g)
    exact ⟨"let", [.s y, .e e], by decide, by unfold Stm.d; rfl, by unfold sWords; simp [ptWords], rfl, all2 (R := PK) pk_s (all2 (pk_e g) all2nil)⟩
  | draw y n =>
    have g : decide (0 ≤ n ∧ n ≤ 65535) = true := by cases d <;> (unfold stmGood at g; exact g)
    exact ⟨"draw", [.s y, .n n], by decide, by unfold Stm.d; rfl, by unfold sWords; simp [ptWords], rfl, all2 (R := PK) pk_s (all2 (pk_n (of_decide_eq_true g)) all2nil)⟩
  | put y e f =>
    have g : (exGood 8 e && exGood 8 f) = true := by cases d <;> (unfold stmGood at g; exact g)
    rw [Bool.and_eq_true] at g
    exact ⟨"put", [.s y, .e e, .e f], by decide, by unfold Stm.d; rfl, by unfold sWords; simp [ptWords], rfl, all2 (R := PK) pk_s (all2 (pk_e g.1) (all2 (pk_e g.2) all2nil))⟩
  | lot y z e =>
    have g : exGood 8 e = true := by cases d <;> (unfold stmGood at g; exact g)
    exact ⟨"lot", [.s y, .s z, .e e], by decide, by unfold Stm.d; rfl, by unfold sWords; simp [ptWords], rfl, all2 (R := PK) pk_s (all2 pk_s (all2 (pk_e g) all2nil))⟩
  | ask y z e =>
    have g : exGood 8 e = true := by cases d <;> (unfold stmGood at g; exact g)
    exact ⟨"ask", [.s y, .s z, .e e], by decide, by unfold Stm.d; rfl, by unfold sWords; simp [ptWords], rfl, all2 (R := PK) pk_s (all2 pk_s (all2 (pk_e g) all2nil))⟩
  | ite e a b => exact absurd rfl (h1 e a b)
  | bad => exact ⟨"bad", [], by decide, by unfold Stm.d; rfl, by unfold sWords; rfl, rfl, all2nil⟩
  | after a => exact absurd rfl (h2 a)
def blkL : Blk → List Stm
  | .nil => []
  | .cons s r => s :: blkL r
theorem blkL_ds : ∀ b : Blk, b.ds = (blkL b).map Stm.d
  | .nil => by unfold Blk.ds; rfl
  | .cons s r => by unfold Blk.ds; rw [blkL_ds r]; rfl
theorem blkL_words : ∀ b : Blk, bWords b = (blkL b).flatMap sWords
  | .nil => by unfold bWords; rfl
  | .cons s r => by unfold bWords; rw [blkL_words r]; rfl
theorem blkL_good : ∀ {b : Blk} {d : Nat}, blkGood d b = true → ∀ x ∈ blkL b, stmGood d x = true
  | .nil, _, _, x, h => by cases h
  | .cons s r, d, g, x, h => by
    unfold blkGood at g
    rw [Bool.and_eq_true] at g
    rcases List.mem_cons.mp h with rfl | h
    · exact g.1
    · exact blkL_good g.2 x h
theorem flatMap_take {α β : Type} {f : α → List β} : ∀ {xs : List α} {i : Nat} {x : α}, xs[i]? = some x → (xs.take (i + 1)).flatMap f = (xs.take i).flatMap f ++ f x := fun {xs i x} h => by
  rw [take_more h, List.flatMap_append]
  simp
theorem flatMap_len {α β : Type} {f : α → List β} : ∀ {xs : List α} {i : Nat}, ((xs.take i).flatMap f).length ≤ (xs.flatMap f).length
  | [], i => by simp
  | x :: xs, 0 => by simp
  | x :: xs, i + 1 => by
    have := flatMap_len (f := f) (xs := xs) (i := i)
    simp only [List.take_succ_cons, List.flatMap_cons, List.length_append]
    omega
theorem flatMap_one {α β : Type} {f : α → List β} : ∀ {xs : List α} {i : Nat} {x : α}, xs[i]? = some x → (f x).length ≤ (xs.flatMap f).length
  | [], i, x, h => by simp at h
  | y :: xs, 0, x, h => by
    obtain rfl : y = x := Option.some.inj h
    simp only [List.flatMap_cons, List.length_append]
    omega
  | y :: xs, i + 1, x, h => by
    have := flatMap_one (f := f) (xs := xs) (i := i) (x := x) (by simpa using h)
    simp only [List.flatMap_cons, List.length_append]
    omega
end Pz
set_option Elab.async false
set_option linter.all false
set_option maxRecDepth 100000
set_option maxHeartbeats 4000000
/-! One token is out: carried through a loop over what an expression gives, and through the block of a list comprehension; x.replace(y, a + e); x * n. The loops follow the library's rules for both (HandS), with the count of tokens in their invariants. -/
namespace Mine
open PySem PySem.Calls L2 PyProof.Rows
theorem tks {α : Type} {M : Model} {A : Around} {t : Sem α} {Q : α → Shared → Prop} {E : Value → Shared → Prop} {s : Shared} (h : wpAny M A t Q E s) : wpAny M A t (fun a s' => s.toks ≤ s'.toks ∧ Q a s') E s :=
  wpAny_mono (PySem.wpAny_toks h) (fun _ _ z => z) fun _ _ z => z.2
section
variable {X : Cx} {e f : Expr} {te tf : TE}
theorem pet_of (h : PE X e te) : PET X e te := fun pins s σ H Q _ I q => h.run pins s σ H Q I q
theorem pet_two {op : Operator} {r : R2} {pos : Pos} (ho : OpR X (binaryOp op) r) (ha : PET X e te) (hb : PET X f tf) : PET X (.BinOp e op f pos) (tOp r te tf) := by
  intro pins s σ H Q h0 I h
  refine wpAny_BinOp (thn (tks (ha pins s σ H _ h0 I h)) fun v s1 ⟨hk, x, H1, I1, r1, q1⟩ => ?_)
  exact thn (hb pins s1 σ H1 _ (Nat.le_trans h0 hk) I1 q1) fun u s2 ⟨y, H2, I2, r2, q2⟩ => ho pins s2 σ H2 x y v u Q I2 r1 r2 q2
theorem pst_name {i : Nat} {x : Str} {pos' pos : Pos} (hN : X.N.Nodup) (hi : X.N[i]? = some x) (hx : Loc X.env.scope x) (he : PET X e te) (hs : swapsWith e (some (.Name x pos')) pos.line X.env = pure false := by rfl) (hf : X.fn x = true ∨ X.env.scope.names.lookup x = some .local := by first | exact .inl rfl | exact .inr rfl | assumption) :
    PST X (.Assign [.Name x pos'] e pos) (tAsg te (gName i)) := by
  intro pins s σ H D h0 I h
  refine wpAny_Assign_Name (thn (he pins s σ H _ h0 I h) fun v s1 ⟨y, H1, I1, r1, q1⟩ => ?_) hs
  exact store_ok I1 hN hi hx r1 (fun s2 I2 => ⟨_, H1, I2, q1⟩) hf
theorem psst_end : PSsT X [] tNext := fun _ s σ H D _ I h => PSsT.of pss_nil _ s σ H D ‹_› I h
/-- name = -c: behind it a token is out -/
theorem pss_minus {i j : Nat} {x : Str} {c : Int} {rest : List Stmt} {u : TS} {cp up pos' pos : Pos} (hN : X.N.Nodup) (hi : X.N[i]? = some x) (hx : Loc X.env.scope x) (h2 : PSsT X rest u)
    (hs : swapsWith (.UnaryOp .USub (.Constant (.int c) j cp) up) (some (.Name x pos')) pos.line X.env = pure false := by rfl) (hf : X.fn x = true ∨ X.env.scope.names.lookup x = some .local := by first | exact .inl rfl | exact .inr rfl | assumption) :
    PSs X (.Assign [.Name x pos'] (.UnaryOp .USub (.Constant (.int c) j cp) up) pos :: rest) (tSeq (tAsg (tC (.int (-c))) (gName i)) u) := by
  refine ⟨fun pins s σ H D I h => ?_⟩
  have st : wpAny (model X.prog X.w) X.A (exec (.Assign [.Name x pos'] (.UnaryOp .USub (.Constant (.int c) j cp) up) pos) X.env) (fun r s2 => r = .next ∧ 1 ≤ s2.toks ∧ Inv X pins (σ.set i (some (V.int (-c)))) H s2) X.xe s := by
    refine wpAny_Assign_Name (UnaryOp_ (wpAny_Constant_int ?_)) hs
    refine neg_int ?_
    refine thn (tks (store_ok (v := V.int (-c)) (Q := fun _ s2 => Inv X pins (σ.set i (some (V.int (-c)))) H s2) (I.tok _) hN hi hx ⟨_, rfl⟩ (fun _ I2 => I2) hf)) fun r s2 ⟨hk, q⟩ => ⟨rfl, ?_, q⟩
    exact Nat.le_trans (Nat.le_add_left 1 _) hk
  refine wpAny_execs_cons (thn st fun r s2 ⟨e, h1, I2⟩ => ?_)
  subst e
  exact h2 pins s2 _ H D h1 I2 h
/-- a loop whose block wants a token -/
theorem pst_loop {tg iter : Expr} {body : List Stmt} {wi : TI} {g : TG} {tb : TS} {pos : Pos} (hp : PassesOwn (model X.prog X.w) X.A X.env X.xe) (hc : X.calm = true) (hi : PI X tg iter wi) (hg : PG X tg g) (hb : PSsT X body tb)
    (hs : ∀ x, foldedSetIterable iter X.env x = pure x := by intro _; rfl) : PST X (.For tg iter body [] pos) (tFor wi g tb) := by
  intro pins s σ H D h0 I h
  refine wpAny_For (thn (tks (hi.run pins s σ H _ I h)) fun v s1 ⟨k1, h1⟩ => thn (tks h1) fun itv s2 ⟨k2, h2⟩ => ?_) hs
  obtain ⟨it, fp, tn, J, H2, e, I2, T, st2, f2, W, ⟨m0, w0⟩, turn⟩ := h2
  subst e
  have keep : ∀ {H' : Hp}, (∀ b ∈ fp, H' b = none) → ∀ b ∈ fp, FpOk X pins H' b := fun hn b hb => ⟨hn b hb, (f2 b hb).2⟩
  let I' : Nat → Shared → Prop := fun n s' => 1 ≤ s'.toks ∧ ∃ i σ' H', Inv X pins σ' H' s' ∧ tn i s'.heap ∧ (∀ b ∈ fp, H' b = none) ∧ W i n σ' H'
  refine codeAny_forLoop_any I' ?_ m0 ⟨Nat.le_trans h0 (Nat.le_trans k1 k2), 0, σ, H2, I2, st2, fun b hb => (f2 b hb).1, w0⟩
  rintro n s3 ⟨k3, i, σ3, H3, I3, st3, fr3, w3⟩
  rcases turn i n σ3 H3 w3 with ⟨stop, qn⟩ | ⟨go, N, hN, step⟩
  · refine wpAny_passesOwn hp (thn (T.done X rfl rfl rfl hc i pins s3 σ3 H3 X.xe I3 (keep fr3) st3 stop) fun r s4 ⟨hr, I4⟩ => ?_)
    subst hr
    exact wpAny_execs_nil ⟨σ3, H3, I4, qn⟩
  · refine wpAny_passesOwn hp (thn (tks (T.item X rfl rfl rfl hc i pins s3 σ3 H3 X.xe I3 (keep fr3) st3 go)) fun r s4 ⟨k4, u, hr, h4⟩ => ?_)
    subst hr
    refine wpAny_passesOwn hp (thn (tks h4) fun _ s5 ⟨k5, x, H5, I5, r5, y5, st5, fr5⟩ => ?_)
    refine wpAny_passesOwn hp (thn (tks (hg.run _ s5 σ3 H5 x u _ (I5.pinned (keep fr5) (T.obj _ _ st5)) r5 (step x H5 y5))) fun _ s6 ⟨k6, σ6, H6, I6, q6⟩ => ?_)
    have k7 : 1 ≤ s6.toks := Nat.le_trans k3 (Nat.le_trans k4 (Nat.le_trans k5 k6))
    refine wpAny_passesOwn hp (thn (tks (hb _ s6 σ6 H6 _ k7 I6 q6)) fun f s7 ⟨k8, q7⟩ => ?_)
    have next : ∀ {σ7 : L2.St} {H7 : Hp}, Inv X (pins ++ pinsAt fp s5.heap) σ7 H7 s7 → N σ7 H7 → ∃ m, m < n ∧ I' m s7 := fun {σ7 H7} I7 n7 => by
      obtain ⟨m', hm, w7⟩ := hN σ7 H7 n7
      have at7 : ∀ b ∈ fp, ∀ o, s5.heap.get? b = some o → s7.heap.get? b = some o ∧ H7 b = none := fun b hb o e =>
        let z := I7.pin (b, o) (List.mem_append_right _ (List.mem_append_right _ (mem_pinsAt hb e)))
        ⟨z.1, z.2.1⟩
      refine ⟨m', hm, Nat.le_trans k7 k8, i + 1, σ7, H7, I7.unpinned, T.keep _ _ _ st5 fun b hb o e => (at7 b hb o e).1, fun b hb => ?_, w7⟩
      obtain ⟨o, e, _⟩ := T.obj _ _ st5 b hb
      exact (at7 b hb o e).2
    cases f with
    | next => obtain ⟨σ7, H7, I7, n7⟩ := q7; exact next I7 n7
    | cont => obtain ⟨σ7, H7, I7, n7⟩ := q7; exact next I7 n7
    | brk => obtain ⟨σ7, H7, I7, q7⟩ := q7; exact ⟨σ7, H7, I7.unpinned, q7⟩
    | ret v => obtain ⟨x7, σ7, H7, I7, r7, q7⟩ := q7; exact ⟨x7, σ7, H7, I7.unpinned, r7, q7⟩
end
/-! ### x.replace(y, a + e) -/
def tRepN (to te : TE) (y a : Str) : TE := fun σ H Q => to σ H fun v H1 => ∃ x, v = .str x ∧ te σ H1 fun u H2 => ∃ d : Str, u = .str d ∧ 0 < a.length ∧ 0 < d.length ∧ a.length + d.length ≤ sizeLine ∧ (y == a ++ d) = false ∧ x.length + (x.length + 1) * (a ++ d).length ≤ 16777216 ∧ Q (.str (Txt.replace x y (a ++ d))) H2
section
variable {X : Cx} {o e : Expr} {to te : TE} {y a : Str} {j k : Nat} {c0 c1 apos pos bp : Pos}
theorem pet_repN (ho : PE X o to) (he : PE X e te)
    (hst : starEach [.Constant (.str y) j c0, .BinOp (.Constant (.str a) k c1) .Add e bp] X.env = [(false, eval (.Constant (.str y) j c0) X.env), (false, eval (.BinOp (.Constant (.str a) k c1) .Add e bp) X.env)] := by rfl)
    (hbase : attributeBase o "replace" X.env (eval o X.env) = eval o X.env := by rfl) (hline : (apos.endLine == pos.line) = true := by rfl) :
    PET X (.Call (.Attribute o "replace" apos) [.Constant (.str y) j c0, .BinOp (.Constant (.str a) k c1) .Add e bp] [] pos) (tRepN to te y a) := by
  intro pins s σ H Q h0 I h
  refine PySem.Call_method2 hbase hst hline (thn (tks (ho.run pins s σ H _ I h)) fun v s1 ⟨hk, v', H1, I1, r1, x, e1, q⟩ => ?_)
  subst e1
  obtain ⟨tx, e2⟩ := r1
  subst e2
  refine ⟨"str", _, PySem.F.plainAttrs_str, PySem.F.slot_str_replace, PySem.F.type_str_replace, typeIs_str _ _ _, (fun _ e => nomatch e), Calls.callWith_builtin rfl (Calls.evalArgs_plain (Calls.spliced_cons ?_))⟩
  refine Calls.Constant_str (Calls.spliced_cons ?_)
  refine wpAny_BinOp (Calls.Constant_str ?_)
  refine thn (tks (he.run pins _ σ H1 _ ((I1.tok _).tok _) q)) fun u s2 ⟨hk2, u', H2, I2, r2, d, e3, ha, hd, hz, hy, hb, q⟩ => ?_
  subst e3
  obtain ⟨td, e4⟩ := r2
  subst e4
  have hk2 : s1.toks + 1 + 1 ≤ s2.toks := hk2
  refine PySem.P.add_str ?_
  rw [if_neg (by simp; omega), if_neg (by simp; omega)]
  refine ⟨?_, Calls.spliced_nil ?_⟩
  · rw [Str.length_append]
    exact hz
  exact PySem.SC.replace (by show s1.toks ≠ 0; have hk1 : s.toks ≤ s1.toks := hk; omega) (by show s2.toks ≠ 0; omega) (by show s1.toks ≠ s2.toks; omega) hy hb fun t' k => ⟨.str (Txt.replace x y (a ++ d)), H2, I2.tok k, ⟨t', rfl⟩, q⟩
end
/-! ### x * n -/
theorem op_mul_str {X : Cx} : OpR X (binaryOp .Mult) (fun x y H Q => ∃ i n, x = .str i ∧ y = .int n ∧ MulOk i n ∧ Q (.str (Txt.mul i n)) H) := by
  intro pins s σ H x y v u Q I rx ry h
  obtain ⟨i, n, rfl, rfl, ok, q⟩ := h
  obtain ⟨t, rfl⟩ := rx
  obtain ⟨t', rfl⟩ := ry
  exact SB.mul ok fun t' k => ⟨.str (Txt.mul i n), H, I.tok _, ⟨_, rfl⟩, q⟩
section
variable {X : Cx} {W : WX} {E : XK}
theorem pet_lcX {elt tg iter : Expr} {ifs : List Expr} {scope : Scope} {own : List (Str × Nat)} {pos : Pos} {wi : TI} {g : TG} {tt : TT} {te : TE} (tk : Takes X W) (hW : ∀ cls d σ H, E cls d H → W cls d σ H) (hst : X.stack = X.env :: X.outer) (hf : X.env.frame = some X.env.locals)
    (hc : X.calm = true) (hN : X.N.Nodup) (hi : PI X tg iter wi) (ok : BlkOk X.N X.env.scope scope own)
    (hg : ∀ (s : Shared) (H : Hp) (C : Addr) (cl : List (Str × Addr)) (fp : List Addr), PG (X.blk s H scope (compEnvC scope cl C X.env) fp) tg g)
    (ht : ∀ (s : Shared) (H : Hp) (C : Addr) (cl : List (Str × Addr)) (fp : List Addr), PTs (X.blk s H scope (compEnvC scope cl C X.env) fp) ifs tt)
    (he : ∀ (s : Shared) (H : Hp) (C : Addr) (cl : List (Str × Addr)) (fp : List Addr), PET (xb (X.blk s H scope (compEnvC scope cl C X.env) fp) E) elt te) (hs : ∀ x, foldedSetIterable iter X.env x = pure x := by intro _; rfl) :
    PET X (.ListComp elt [⟨tg, iter, ifs, 0⟩] scope pos) (tLc wi g tt te (own.map (·.2))) := by
  intro pins s σ H Q h0 I h
  rw [eval_ListComp]
  have hfree : ∀ y ∈ scope.names, y.2 = .free → ∃ c, X.env.cells.lookup y.1 = some c := fun y hy e => by
    rcases ok.free y hy e with k | k
    · exact I.ok.has _ (.inl k)
    · exact I.ok.has _ (.inr k)
  refine comp_cx (Q := EP X pins σ Q) rfl hs (closure_ok hfree) ok.kind (fun y hy e => by rw [ok.uniq y hy, e]) (thn (tks (hi.run pins s σ H _ I h)) fun xv s1 ⟨k1, hx⟩ => thn (tks hx) fun itv s2 ⟨k2, h2⟩ => ?_)
  obtain ⟨it, fp, tn, J, H2, e, I2, T, st2, f2, q⟩ := h2
  subst e
  refine wpAny_newObj_type (newEnv_comp ?_) (by show 0 ≤ sizeLine; decide)
  generalize hD : s2.heap.objs.size = D
  have nD : H2 D = none := I2.hok.fresh (Nat.le_of_eq hD)
  obtain ⟨V, ⟨m0, w0⟩, turn⟩ := q D nD
  generalize hs3 : ({ s2 with heap := s2.heap.push { cls := .type "list", data := .seq ([] : List Value).toArray } } : Shared) = s3
  have k3 : 1 ≤ s3.toks := by rw [← hs3]; exact Nat.le_trans h0 (Nat.le_trans k1 k2)
  have h3 : s3.heap = s2.heap.push { cls := .type "list", data := .seq ([] : List Value).toArray } := by rw [← hs3]
  have I3 : Inv X pins σ (upd H2 D (.lst [])) s3 := by
    rw [← hs3]
    refine I2.laid (t' := s2.toks) (fun b o e => Heap.get?_push_of_some _ e) (Nat.le_of_eq hD) ⟨Nat.zero_le _, [], 0, .nil, ?_⟩
    rw [← hD]
    exact Heap.get?_push_size _ rfl
  have below : ∀ b ∈ fp, b < s2.heap.objs.size := fun b hb => let ⟨_, e, _⟩ := T.obj _ _ st2 b hb; Heap.lt_size e
  have f3 : ∀ b ∈ fp, FpOk X pins (upd H2 D (.lst [])) b ∧ b < s3.heap.objs.size := fun b hb => by
    have lt := below b hb
    refine ⟨⟨?_, (f2 b hb).2⟩, by rw [h3, Heap.size_push]; exact Nat.lt_succ_of_lt lt⟩
    rw [upd_ne (by rw [← hD]; exact Nat.ne_of_lt lt)]
    exact (f2 b hb).1
  have st3 : tn 0 s3.heap := T.keep _ _ _ st2 fun b _ o e => by rw [h3]; exact Heap.get?_push_of_some _ e
  have I4 := block_start I3 ok hN f3
  have kg := hg s3 (upd H2 D (.lst [])) s3.heap.objs.size (cellsFrom (s3.heap.objs.size + 1) scope.names (cloFrom X.env.cells scope.names [])) fp
  have kt := ht s3 (upd H2 D (.lst [])) s3.heap.objs.size (cellsFrom (s3.heap.objs.size + 1) scope.names (cloFrom X.env.cells scope.names [])) fp
  have ke := he s3 (upd H2 D (.lst [])) s3.heap.objs.size (cellsFrom (s3.heap.objs.size + 1) scope.names (cloFrom X.env.cells scope.names [])) fp
  show codeAny _ _ (.compStart (.ListComp elt [⟨tg, iter, ifs, 0⟩] scope pos) 0 (.ref it) (.ref D) (compEnvC scope (cellsFrom (s3.heap.objs.size + 1) scope.names (cloFrom X.env.cells scope.names [])) s3.heap.objs.size X.env))
    (CPost (model X.prog X.w) X.A X.xe (EP X pins σ Q) (.ref D) (compEnvC scope (cellsFrom (s3.heap.objs.size + 1) scope.names (cloFrom X.env.cells scope.names [])) s3.heap.objs.size X.env)) { s3 with heap := pushCells (s3.heap.push { cls := .type "dict", data := .dict #[] }) scope.names }
  generalize hce : compEnvC scope (cellsFrom (s3.heap.objs.size + 1) scope.names (cloFrom X.env.cells scope.names [])) s3.heap.objs.size X.env = ce at I4 kg kt ke ⊢
  have cL : ce.locals = s3.heap.objs.size := by subst hce; rfl
  have cF : ce.frame = X.env.frame := by subst hce; rfl
  generalize hH3 : upd H2 D (.lst []) = H3 at I3 I4 kg kt ke w0 f3
  have nfp : ∀ b ∈ fp, H3 b = none := fun b hb => (f3 b hb).1.1
  generalize hs4 : ({ s3 with heap := pushCells (s3.heap.push { cls := .type "dict", data := .dict #[] }) scope.names } : Shared) = s4 at I4 ⊢
  have k4 : 1 ≤ s4.toks := by rw [← hs4]; exact k3
  have st4 : tn 0 s4.heap := T.keep _ _ _ st3 fun b _ o e => by rw [← hs4]; exact pushCells_keeps _ _ _ _ (Heap.get?_push_of_some _ e)
  have lie : ∀ {σ' : L2.St} {H' : Hp} {s' : Shared}, Inv (X.blk s3 H3 scope ce fp) [] σ' H' s' → (∀ b ∈ fp, H' b = none) → ∀ b ∈ fp, FpOk (X.blk s3 H3 scope ce fp) [] H' b := fun {σ' H' s'} J hn b hb =>
    ⟨hn b hb, (J.ok.exf b hb).1, J.ok.exfs b hb, .inl hb, fun x c e => (J.ok.exf b hb).2 x c e, fun p hp => absurd (show p ∈ ([] : List (Addr × Obj)) ++ [] from hp) (by simp)⟩
  have loop : codeAny (model X.prog X.w) X.A (.compLoop (.ListComp elt [⟨tg, iter, ifs, 0⟩] scope pos) 0 (.ref it) (.ref D) ce) (CPost (model X.prog X.w) X.A X.xe (EP X pins σ Q) (.ref D) ce) s4 := by
    refine compLoop_any (fun n s' => 1 ≤ s'.toks ∧ ∃ i H', Inv (X.blk s3 H3 scope ce fp) [] (wipe σ (own.map (·.2))) H' s' ∧ tn i s'.heap ∧ (∀ b ∈ fp, H' b = none) ∧ V i n H') ?_ m0 ⟨k4, 0, H3, I4, st4, nfp, w0⟩
    rintro n s5 ⟨k5, i, H5, I5, st5, n5, w5⟩
    rcases turn i n H5 w5 with ⟨stop, qq⟩ | ⟨go, Nx, hNx, step⟩
    · refine thnF (T.done (X.blk s3 H3 scope ce fp) rfl rfl rfl hc i [] s5 _ H5 (fun _ _ => False) I5 (lie I5 n5) st5 stop) fun r s6 ⟨hr, I6⟩ => ?_
      subst hr
      have I7 : Inv X pins σ H5 s6 := I3.call' (ch := fp) I6.os I6.base I6.hok I6.bare fun b hb => ⟨(f3 b hb).1.2.2.2.1, (f3 b hb).1.2.1, (f3 b hb).1.2.2.2.2.1, (f3 b hb).1.2.2.2.2.2⟩
      have nC : H5 s3.heap.objs.size = none := by
        have z : H5 ce.locals = none := I6.free
        rw [cL] at z
        exact z
      obtain ⟨m, hn, _⟩ := I6.loc
      have hn : s6.heap.Ns ce.locals m := hn
      refine ⟨m, hn, fun h' sb => ?_⟩
      rw [cL] at sb
      obtain ⟨p0, p1, p2, p3, p4, p5⟩ := I3.fpOk (H' := H5) (Nat.le_refl _) nC
      exact ⟨.ref D, H5, I7.turned (t' := s6.toks) (fun b o hb e => (sb.2 b hb).trans e) p0 p1 p3 p4 p5, rfl, qq⟩
    · refine thnF (tks (T.item (X.blk s3 H3 scope ce fp) rfl rfl rfl hc i [] s5 _ H5 (fun _ _ => False) I5 (lie I5 n5) st5 go)) fun r s6 ⟨k6, u, hr, h6⟩ => ?_
      subst hr
      refine thnF (tks h6) fun _ s7 ⟨k7, x, H7, I7, r7, y7, st7, n7⟩ => ?_
      have I7' := I7.pinned (lie I7 n7) (T.obj _ _ st7)
      refine thnF (tks (kg.run _ s7 _ H7 x u _ I7' r7 (step x H7 y7))) fun _ s8 ⟨k8, σ8, H8, I8, hw8, q8⟩ => ?_
      refine thnF (tks (kt.run _ s8 σ8 H8 _ I8 q8)) fun b s9 ⟨k9, H9, I9, q9⟩ => ?_
      have h9 : 1 ≤ s9.toks := Nat.le_trans k5 (Nat.le_trans k6 (Nat.le_trans k7 (Nat.le_trans k8 k9)))
      have again : ∀ {s' : Shared} {H' : Hp}, 1 ≤ s'.toks → Inv (X.blk s3 H3 scope ce fp) ([] ++ pinsAt fp s7.heap) σ8 H' s' → Nx H' → ∃ m, m < n ∧ 1 ≤ s'.toks ∧ ∃ i H', Inv (X.blk s3 H3 scope ce fp) [] (wipe σ (own.map (·.2))) H' s' ∧ tn i s'.heap ∧ (∀ b ∈ fp, H' b = none) ∧ V i m H' := fun {s' H'} kk J nx => by
        obtain ⟨m', hm, w'⟩ := hNx H' nx
        have pin' : ∀ b ∈ fp, ∀ o, s7.heap.get? b = some o → s'.heap.get? b = some o ∧ H' b = none := fun b hb o e =>
          let z := J.pin (b, o) (List.mem_append_right _ (List.mem_append_right _ (mem_pinsAt hb e)))
          ⟨z.1, z.2.1⟩
        have hl : (wipe σ (own.map (·.2))).length = σ8.length := by rw [← hw8, wipe_length]
        refine ⟨m', hm, kk, i + 1, H', (J.unpinned (pins := [])).weak hl (fun j v e => ?_), T.keep _ _ _ st7 fun b hb o e => (pin' b hb o e).1, fun b hb => ?_, w'⟩
        · rw [← hw8] at e
          exact (wipe_some e).1
        · obtain ⟨o, e, _⟩ := T.obj _ _ st7 b hb
          exact (pin' b hb o e).2
      cases b with
      | false =>
        simp only [Bool.false_eq_true, if_false] at q9 ⊢
        exact again h9 I9 q9
      | true =>
        simp only [if_true] at q9 ⊢
        refine wpAny_mono (tks (ke _ s9 σ8 H9 _ h9 (xb_of I9) q9)) (fun z s10 ⟨k10, yv, H10, I10, r10, acc, hD10, hz10, nx⟩ => ?_) fun u' t' hx => ?_
        · refine thn (tks (app_ok (X := X.blk s3 H3 scope ce fp) (Q := fun _ s11 => Inv (X.blk s3 H3 scope ce fp) ([] ++ pinsAt fp s7.heap) σ8 (upd H10 D (.lst (acc ++ [yv]))) s11) (xb_to I10) hD10 hz10 r10 fun s11 I11 => I11)) fun _ s11 ⟨k11, I11⟩ => again (Nat.le_trans h9 (Nat.le_trans k10 k11)) I11 nx
        · exact blk_out tk hW hst hf I3 f3 cL cF hx
  exact codeAny_compStart_list loop (T.self X.A 0 _ _ _ st4 loop)
end
end Mine
set_option Elab.async false
set_option linter.all false
set_option maxRecDepth 100000
set_option maxHeartbeats 4000000
/-! What the law reckons, purely. -/
namespace Pz
open PySem Mine L2
/-- what the law's reader answers -/
def lawAt (x : Str) : Int := match pGame (toWords x) [] with
  | .error j => j
  | .ok g => if gText g = x then -3 else -2
/-- a text that the contracts speak of -/
def okAt (x : Str) : Bool := decide (x.length ≤ 900000) && decide ((toWords x).length < 1000000) && (toWords x).all (fun w => decide (w.length ≤ 1000000)) && match pGame (toWords x) [] with
  | .error _ => true
  | .ok g => gGood g && decide ((gWords g).length ≤ 1000000) && decide (((gWords g).map (·.length)).sum ≤ 10000000)
def inst (k : Nat) (p : Str) : Str := Txt.replace p "#" ("n" ++ Str.ofString (toString (k : Int)))
def manyW (hd parts : List Str) : Nat → List Str
  | 0 => hd
  | n + 1 => manyW hd parts n ++ parts.map (inst n)
def manyT (hd parts : List Str) (n : Nat) (rest : List Str) : Str := Txt.join " " (manyW hd parts n ++ rest)
def dueM (hd parts : List Str) (n most : Nat) : Int := if most < n then ((manyW hd parts most).length : Nat) else -3
/-- what join wants -/
def okJ (ws : List Str) : Bool := decide ((ws.map (·.length)).sum + ws.length * (" " : Str).length ≤ 16777216)
def okMany (hd parts : List Str) (n most : Nat) (rest : List Str) : Bool := okJ (manyW hd parts n ++ rest) && okAt (manyT hd parts n rest) && decide (lawAt (manyT hd parts n rest) = dueM hd parts n most)
def deepW (parts : List Str) (n : Nat) (rest : List Str) : List Str := (["proc", "p", "1", "1", "g"] : List Str) ++ (List.replicate n parts).flatten ++ (List.replicate n (["end"] : List Str)).flatten ++ rest
def dueD (n most steps : Nat) : Int := if most < n then 5 + (steps : Int) * (most : Int) else -3
def okDeep (parts : List Str) (n most : Nat) (rest : List Str) (steps : Nat) : Bool := okJ (deepW parts n rest) && okAt (Txt.join " " (deepW parts n rest)) && decide (lawAt (Txt.join " " (deepW parts n rest)) = dueD n most steps)
def tallW (n : Nat) : List Str := (["proc", "p", "1", "1", "g", "answer"] : List Str) ++ (List.replicate n (["+"] : List Str)).flatten ++ (List.replicate (n + 1) (["g"] : List Str)).flatten ++ (["end"] : List Str)
def dueT (n : Nat) : Int := if 7 < n then 6 + 7 else -3
def okTall (n : Nat) : Bool := okJ (tallW n) && okAt (Txt.join " " (tallW n)) && decide (lawAt (Txt.join " " (tallW n)) = dueT n)
def okRow (r : Str × Int) : Bool := okAt r.1 && decide (lawAt r.1 = r.2)
def fx0 : List (Str × Int) := [("var x 0 0", 2), ("var x 3 3", 3), ("var x 3 2", -3), ("var x 65535 0", -3), ("var x 1 0 var x 1 0", 5)]
def fx1 : List (Str × Int) := [("table t 65 1", 2), ("table t 64 65", 3), ("table t 64 64", -3), ("lots o 0 1", 2), ("lots o 1 1 table t 1 1", 4)]
def fx2 : List (Str × Int) := [("table t 1 1 var x 1 0", 4), ("var t 1 0 table t 1 1 lots t 1 1", -3), ("var x 1 0 proc p 1 1 x", 8)]
def fx3 : List (Str × Int) := [("proc p 65 1 g", 2), ("proc p 1 0 g", 3), ("proc p 1 1 g local g", 6), ("proc p 1 1 g end", 5)]
def fx4 : List (Str × Int) := [("proc p 1 1 g answer x end", 6), ("proc p 1 1 g answer has t g end", 6), ("proc p 1 1 g set x 1", 5)]
def fx5 : List (Str × Int) := [("proc p 1 1 g put t 1 1", 5), ("proc p 1 1 g lot g o 1", 5), ("proc p 1 1 g ask g p 1", 5)]
def fx6 : List (Str × Int) := [("proc p 1 1 g draw g 65", 7), ("proc p 1 1 g draw g 0", 7), ("proc p 1 1 g draw h 2", 6)]
def fx7 : List (Str × Int) := [("proc p 1 1 g if g else end", 8), ("proc p 1 1 g answer 0 end proc p 1 1 g", 9), ("proc p 1 1 g answer 0", 7)]
def fx8 : List (Str × Int) := [("proc p 1 1 g if g bad else bad end after end answer g end", -3), ("proc p 1 1 g after else", 6), ("", -3)]
def fx9 : List (Str × Int) := [("proc p 1 1 g answer end", 6), ("var x 01 0", 2), ("var set 1 0", 1), ("var x 2 0 proc p 1 1 g local x", 10)]
def fx10 : List (Str × Int) := [("table t 1 1 table t 1 1", 5), ("lots o 1 1 lots o 1 1", 5), ("proc p 1 65 g", 3), ("proc let 1 1 g", 1)]
def fx11 : List (Str × Int) := [("proc p 1 1 g if 1 bad else if 1 bad else if 1 bad else if 1 bad else if 1 bad else if 1 bad else if 1", 29), ("proc p 1 1 g answer + 1 + 1 + 1 + 1 + 1 + 1 + 1 + 1 1 end", 20)]
def fxAll : List (Str × Int) := fx0 ++ fx1 ++ fx2 ++ fx3 ++ fx4 ++ fx5 ++ fx6 ++ fx7 ++ fx8 ++ fx9 ++ fx10 ++ fx11
theorem fx_ok : fxAll.all okRow = true := by decide +kernel
theorem way0 : ∀ k ∈ ([0, 1, 2] : List Nat), okMany [] ["var", "#", "9", "8"] (5 + k) 6 [] = true := by decide +kernel
theorem way1 : ∀ k ∈ ([0, 1, 2] : List Nat), okMany [] ["table", "#", "1", "2"] (5 + k) 6 [] = true := by decide +kernel
theorem way2 : ∀ k ∈ ([0, 1, 2] : List Nat), okMany [] ["lots", "#", "1", "2"] (5 + k) 6 [] = true := by decide +kernel
theorem way3 : ∀ k ∈ ([0, 1, 2] : List Nat), okMany [] ["proc", "#", "1", "1", "g", "answer", "g", "end"] (5 + k) 6 [] = true := by decide +kernel
theorem way4 : ∀ k ∈ ([0, 1, 2] : List Nat), okMany ["proc", "p", "1", "1", "g"] ["local", "#"] (4 + k) 5 ["answer", "0", "end"] = true := by decide +kernel
theorem way5 : ∀ k ∈ ([0, 1, 2] : List Nat), okDeep ["if", "1"] (5 + k) 6 ["answer", "0", "end"] 2 = true := by decide +kernel
theorem way6 : ∀ k ∈ ([0, 1, 2] : List Nat), okDeep ["after"] (5 + k) 6 ["answer", "0", "end"] 1 = true := by decide +kernel
theorem way7 : ∀ k ∈ ([0, 1, 2] : List Nat), okTall (6 + k) = true := by decide +kernel
end Pz
set_option Elab.async false
set_option linter.all false
set_option maxRecDepth 100000
set_option maxHeartbeats 4000000
namespace Toy
open PySem L2 Mine NdefX Gm Pz
def top (i : Nat) : Stmt := PySem.Challenge.pw_tellsnone_k03_bounds_of_a_text.main.body.getD i (.Pass ⟨0, 0, 0, 0⟩)
abbrev s_BadText_init : Stmt := inClass (top 2) 0
def oke_BadText : V → Prop := fun y => ∃ i : Int, y = .int i ∧ i.natAbs < 2 ^ 64
theorem err_BadText {P : Program} {w : World} {K : PySem.W.Frag} {mg : Str → Option Value} {base : Heap} {k : Nat} {C f : Addr} {fd : FuncData} {file : Str} (F : ErrF K mg C f fd "BadText.__init__" s_BadText_init file "at") (hP : PrF P file) :
    FnOk P w K mg base CX0 (k + 1) f fd [("self" : Str), "at"] (spErr C "at" oke_BadText) :=
  err_ok F hP.1 hP.2 rfl (nscope_by (by decide +kernel)) rfl rfl rfl (fun _ => rfl) (fun _ => rfl) (fun _ => rfl) (fun _ => rfl) (by decide) (by decide) (fun X hN hs => pe_joined (.cons pe_str (.cons (pe_fmt (pe_var (i := 1) (by rw [hN]; rfl) (by rw [hs]; exact .inl rfl))) (.cons pe_str .nil))))
    (by
      rintro σ H y Q e ⟨i, rfl, hi⟩ q
      exact js_I3 (by decide +kernel) (by decide +kernel) e hi q)
abbrev s_is_name : Stmt := top 10
theorem sc_is_name : FnScope ["word", "sign"] ["word"] (defScope s_is_name) := ⟨rfl, rfl, rfl, by decide +kernel, rfl, by decide +kernel, by decide +kernel⟩
abbrev s_is_number : Stmt := top 11
theorem sc_is_number : FnScope ["word", "sign"] ["word"] (defScope s_is_number) := ⟨rfl, rfl, rfl, by decide +kernel, rfl, by decide +kernel, by decide +kernel⟩
abbrev s_Words_init : Stmt := inClass (top 12) 0
theorem sc_Words_init : FnScope ["self", "text"] ["self", "text"] (defScope s_Words_init) := ⟨rfl, rfl, rfl, by decide +kernel, rfl, by decide +kernel, by decide +kernel⟩
abbrev s_Words_ended : Stmt := inClass (top 12) 1
theorem sc_Words_ended : FnScope ["self"] ["self"] (defScope s_Words_ended) := ⟨rfl, rfl, rfl, by decide +kernel, rfl, by decide +kernel, by decide +kernel⟩
abbrev s_Words_ahead : Stmt := inClass (top 12) 2
theorem sc_Words_ahead : FnScope ["self"] ["self"] (defScope s_Words_ahead) := ⟨rfl, rfl, rfl, by decide +kernel, rfl, by decide +kernel, by decide +kernel⟩
abbrev s_Words_refuse : Stmt := inClass (top 12) 3
theorem sc_Words_refuse : FnScope ["self"] ["self"] (defScope s_Words_refuse) := ⟨rfl, rfl, rfl, by decide +kernel, rfl, by decide +kernel, by decide +kernel⟩
abbrev s_Words_take : Stmt := inClass (top 12) 4
theorem sc_Words_take : FnScope ["self", "word"] ["self"] (defScope s_Words_take) := ⟨rfl, rfl, rfl, by decide +kernel, rfl, by decide +kernel, by decide +kernel⟩
abbrev s_Words_one_of : Stmt := inClass (top 12) 5
theorem sc_Words_one_of : FnScope ["self", "choices"] ["self", "choices"] (defScope s_Words_one_of) := ⟨rfl, rfl, rfl, by decide +kernel, rfl, by decide +kernel, by decide +kernel⟩
abbrev s_Words_name : Stmt := inClass (top 12) 6
theorem sc_Words_name : FnScope ["self", "taken"] ["self", "taken"] (defScope s_Words_name) := ⟨rfl, rfl, rfl, by decide +kernel, rfl, by decide +kernel, by decide +kernel⟩
abbrev s_Words_number : Stmt := inClass (top 12) 7
theorem sc_Words_number : FnScope ["self", "least", "greatest"] ["self", "least", "greatest"] (defScope s_Words_number) := ⟨rfl, rfl, rfl, by decide +kernel, rfl, by decide +kernel, by decide +kernel⟩
abbrev s_Words_finish : Stmt := inClass (top 12) 8
theorem sc_Words_finish : FnScope ["self"] ["self"] (defScope s_Words_finish) := ⟨rfl, rfl, rfl, by decide +kernel, rfl, by decide +kernel, by decide +kernel⟩
abbrev s_read_expression : Stmt := top 17
theorem sc_read_expression : FnScope ["words", "meanings", "tables", "depth", "word", "left", "table"] ["words", "meanings", "tables", "depth"] (defScope s_read_expression) := ⟨rfl, rfl, rfl, by decide +kernel, rfl, by decide +kernel, by decide +kernel⟩
abbrev s_expression_words : Stmt := top 18
theorem sc_expression_words : FnScope ["expression", "head"] ["expression"] (defScope s_expression_words) := ⟨rfl, rfl, rfl, by decide +kernel, rfl, by decide +kernel, by decide +kernel⟩
abbrev s_StatementReader_init : Stmt := inClass (top 23) 0
theorem sc_StatementReader_init : FnScope ["self", "words", "names", "kind", "name", "word"] ["self", "words", "names"] (defScope s_StatementReader_init) := ⟨rfl, rfl, rfl, by decide +kernel, rfl, by decide +kernel, by decide +kernel⟩
abbrev s_StatementReader_can_follow : Stmt := inClass (top 23) 1
theorem sc_StatementReader_can_follow : FnScope ["self", "kind"] ["self", "kind"] (defScope s_StatementReader_can_follow) := ⟨rfl, rfl, rfl, by decide +kernel, rfl, by decide +kernel, by decide +kernel⟩
abbrev s_StatementReader_can_start : Stmt := inClass (top 23) 2
theorem sc_StatementReader_can_start : FnScope ["self", "word", "depth"] ["self", "word", "depth"] (defScope s_StatementReader_can_start) := ⟨rfl, rfl, rfl, by decide +kernel, rfl, by decide +kernel, by decide +kernel⟩
abbrev s_StatementReader_block : Stmt := inClass (top 23) 3
theorem sc_StatementReader_block : FnScope ["self", "depth", "found"] ["self", "depth"] (defScope s_StatementReader_block) := ⟨rfl, rfl, rfl, by decide +kernel, rfl, by decide +kernel, by decide +kernel⟩
abbrev s_StatementReader_statement : Stmt := inClass (top 23) 4
theorem sc_StatementReader_statement : FnScope ["self", "depth", "word", "block", "kind"] ["self", "depth"] (defScope s_StatementReader_statement) := ⟨rfl, rfl, rfl, by decide +kernel, rfl, by decide +kernel, by decide +kernel⟩
abbrev s_StatementReader_choice : Stmt := inClass (top 23) 5
theorem sc_StatementReader_choice : FnScope ["self", "depth", "test", "first", "second"] ["self", "depth"] (defScope s_StatementReader_choice) := ⟨rfl, rfl, rfl, by decide +kernel, rfl, by decide +kernel, by decide +kernel⟩
abbrev s_StatementReader_part : Stmt := inClass (top 23) 6
theorem sc_StatementReader_part : FnScope ["self", "kind"] ["self", "kind"] (defScope s_StatementReader_part) := ⟨rfl, rfl, rfl, by decide +kernel, rfl, by decide +kernel, by decide +kernel⟩
abbrev s_StatementReader_expression : Stmt := inClass (top 23) 7
theorem sc_StatementReader_expression : FnScope ["self"] ["self"] (defScope s_StatementReader_expression) := ⟨rfl, rfl, rfl, by decide +kernel, rfl, by decide +kernel, by decide +kernel⟩
abbrev s_block_words : Stmt := top 24
theorem sc_block_words : FnScope ["block", "found", "statement"] ["block"] (defScope s_block_words) := ⟨rfl, rfl, rfl, by decide +kernel, rfl, by decide +kernel, by decide +kernel⟩
abbrev s_statement_words : Stmt := top 25
theorem sc_statement_words : FnScope ["statement", "word", "found", "kind", "part"] ["statement"] (defScope s_statement_words) := ⟨rfl, rfl, rfl, by decide +kernel, rfl, by decide +kernel, by decide +kernel⟩
abbrev s_choice_words : Stmt := top 26
theorem sc_choice_words : FnScope ["statement", "_", "test", "first", "second", "found"] ["statement"] (defScope s_choice_words) := ⟨rfl, rfl, rfl, by decide +kernel, rfl, by decide +kernel, by decide +kernel⟩
abbrev s_Game_init : Stmt := inClass (top 31) 0
theorem sc_Game_init : FnScope ["self", "variables", "tables", "lots", "procs"] ["self", "variables", "tables", "lots", "procs"] (defScope s_Game_init) := ⟨rfl, rfl, rfl, by decide +kernel, rfl, by decide +kernel, by decide +kernel⟩
abbrev s_Game_eq : Stmt := inClass (top 31) 1
theorem sc_Game_eq : FnScope ["self", "other"] ["self", "other"] (defScope s_Game_eq) := ⟨rfl, rfl, rfl, by decide +kernel, rfl, by decide +kernel, by decide +kernel⟩
abbrev s_Game_proc : Stmt := inClass (top 31) 2
theorem sc_Game_proc : FnScope ["self", "name", "proc"] ["self", "name"] (defScope s_Game_proc) := ⟨rfl, rfl, rfl, by decide +kernel, rfl, by decide +kernel, by decide +kernel⟩
abbrev s_read_game : Stmt := top 32
theorem sc_read_game : FnScope ["text", "asked", "words", "variables", "tables", "lots", "names", "name", "procs"] ["text", "asked"] (defScope s_read_game) := ⟨rfl, rfl, rfl, by decide +kernel, rfl, by decide +kernel, by decide +kernel⟩
abbrev s_first_parts : Stmt := top 33
theorem sc_first_parts : FnScope ["rows", "row"] ["rows"] (defScope s_first_parts) := ⟨rfl, rfl, rfl, by decide +kernel, rfl, by decide +kernel, by decide +kernel⟩
abbrev s_another : Stmt := top 34
theorem sc_another : FnScope ["words", "kind", "found"] ["words", "kind", "found"] (defScope s_another) := ⟨rfl, rfl, rfl, by decide +kernel, rfl, by decide +kernel, by decide +kernel⟩
abbrev s_read_variables : Stmt := top 35
theorem sc_read_variables : FnScope ["words", "found", "name", "size"] ["words"] (defScope s_read_variables) := ⟨rfl, rfl, rfl, by decide +kernel, rfl, by decide +kernel, by decide +kernel⟩
abbrev s_read_maps : Stmt := top 36
theorem sc_read_maps : FnScope ["words", "kind", "found", "name", "keys"] ["words", "kind"] (defScope s_read_maps) := ⟨rfl, rfl, rfl, by decide +kernel, rfl, by decide +kernel, by decide +kernel⟩
abbrev s_read_procs : Stmt := top 37
theorem sc_read_procs : FnScope ["words", "names", "found"] ["words", "names"] (defScope s_read_procs) := ⟨rfl, rfl, rfl, by decide +kernel, rfl, by decide +kernel, by decide +kernel⟩
abbrev s_read_proc : Stmt := top 38
theorem sc_read_proc : FnScope ["words", "names", "taken", "name", "size", "answers", "inner", "reader", "block", "result"] ["words", "names", "taken"] (defScope s_read_proc) := ⟨rfl, rfl, rfl, by decide +kernel, rfl, by decide +kernel, by decide +kernel⟩
abbrev s_read_locals : Stmt := top 39
theorem sc_read_locals : FnScope ["words", "variables", "found"] ["words", "variables"] (defScope s_read_locals) := ⟨rfl, rfl, rfl, by decide +kernel, rfl, by decide +kernel, by decide +kernel⟩
abbrev s_game_text : Stmt := top 40
theorem sc_game_text : FnScope ["game", "found", "proc"] ["game"] (defScope s_game_text) := ⟨rfl, rfl, rfl, by decide +kernel, rfl, by decide +kernel, by decide +kernel⟩
abbrev s_row_words : Stmt := top 41
theorem sc_row_words : FnScope ["kind", "rows", "found", "name", "first", "second"] ["kind", "rows"] (defScope s_row_words) := ⟨rfl, rfl, rfl, by decide +kernel, rfl, by decide +kernel, by decide +kernel⟩
abbrev s_proc_words : Stmt := top 42
theorem sc_proc_words : FnScope ["proc", "name", "size", "answers", "inner", "block", "result", "found", "local"] ["proc"] (defScope s_proc_words) := ⟨rfl, rfl, rfl, by decide +kernel, rfl, by decide +kernel, by decide +kernel⟩
abbrev s_law_cell : Stmt := top 44
theorem sc_law_cell : FnScope ["script", "k"] ["script", "k"] (defScope s_law_cell) := ⟨rfl, rfl, rfl, by decide +kernel, rfl, by decide +kernel, by decide +kernel⟩
abbrev s_law_at : Stmt := top 47
theorem sc_law_at : FnScope ["text", "game", "e"] ["text"] (defScope s_law_at) := ⟨rfl, rfl, rfl, by decide +kernel, rfl, by decide +kernel, by decide +kernel⟩
abbrev s_law_many : Stmt := top 48
theorem sc_law_many : FnScope ["head", "parts", "count", "most", "rest", "words", "due", "k", "part"] ["head", "parts", "count", "most", "rest"] (defScope s_law_many) := ⟨rfl, rfl, rfl, by decide +kernel, rfl, by decide +kernel, by decide +kernel⟩
abbrev s_law_deep : Stmt := top 49
theorem sc_law_deep : FnScope ["parts", "count", "most", "rest", "steps", "head", "due"] ["parts", "count", "most", "rest", "steps"] (defScope s_law_deep) := ⟨rfl, rfl, rfl, by decide +kernel, rfl, by decide +kernel, by decide +kernel⟩
abbrev s_law_tall : Stmt := top 50
theorem sc_law_tall : FnScope ["count", "head", "due"] ["count"] (defScope s_law_tall) := ⟨rfl, rfl, rfl, by decide +kernel, rfl, by decide +kernel, by decide +kernel⟩
abbrev s_law_fixed : Stmt := top 51
theorem sc_law_fixed : FnScope ["rows", "row"] [] (defScope s_law_fixed) := ⟨rfl, rfl, rfl, by decide +kernel, rfl, by decide +kernel, by decide +kernel⟩
abbrev s_law : Stmt := top 52
theorem sc_law : FnScope ["script", "way", "more"] ["script"] (defScope s_law) := ⟨rfl, rfl, rfl, by decide +kernel, rfl, by decide +kernel, by decide +kernel⟩
structure Txt (K : PySem.W.Frag) (mg : Str → Option Value) (file : Str) where
  C_Words : Addr
  g_Words : mg "Words" = some (.ref C_Words)
  cl_Words : Cls K C_Words
  sf_Words : PySem.W.selfFirst K C_Words = true
  na_Words_words : NoAttr K C_Words "words"
  na_Words_at : NoAttr K C_Words "at"
  C_StatementReader : Addr
  g_StatementReader : mg "StatementReader" = some (.ref C_StatementReader)
  cl_StatementReader : Cls K C_StatementReader
  sf_StatementReader : PySem.W.selfFirst K C_StatementReader = true
  na_StatementReader_words : NoAttr K C_StatementReader "words"
  na_StatementReader_names : NoAttr K C_StatementReader "names"
  na_StatementReader_meanings : NoAttr K C_StatementReader "meanings"
  na_StatementReader_starts : NoAttr K C_StatementReader "starts"
  C_Game : Addr
  g_Game : mg "Game" = some (.ref C_Game)
  cl_Game : Cls K C_Game
  sf_Game : PySem.W.selfFirst K C_Game = true
  na_Game_variables : NoAttr K C_Game "variables"
  na_Game_tables : NoAttr K C_Game "tables"
  na_Game_lots : NoAttr K C_Game "lots"
  na_Game_procs : NoAttr K C_Game "procs"
  ia_Game : PySem.W.findIn K (.ref C_Game) "__class__" = some (some (.builtin "object.__class__"))
  im_Game : PySem.W.mroIn K C_Game (.type "object") = some true
  ik_Game : PySem.W.kitOne K (.ref C_Game) (.ref C_Game) = some true
  a_is_name : Addr
  fd_is_name : FuncData
  F_is_name : Fun K "is_name" "is_name" s_is_name a_is_name fd_is_name
  b_is_name : L2.Binds K fd_is_name ["word"] []
  k_is_name : PySem.W.keepIn K (.ref a_is_name) = true
  g_is_name : mg "is_name" = some (.ref a_is_name)
  a_is_number : Addr
  fd_is_number : FuncData
  F_is_number : Fun K "is_number" "is_number" s_is_number a_is_number fd_is_number
  b_is_number : L2.Binds K fd_is_number ["word"] []
  k_is_number : PySem.W.keepIn K (.ref a_is_number) = true
  g_is_number : mg "is_number" = some (.ref a_is_number)
  a_Words_init : Addr
  fd_Words_init : FuncData
  F_Words_init : Fun K "__init__" "Words.__init__" s_Words_init a_Words_init fd_Words_init
  b_Words_init : L2.Binds K fd_Words_init ["self", "text"] []
  k_Words_init : PySem.W.keepIn K (.ref a_Words_init) = true
  m_Words_init : Meth K C_Words "__init__" a_Words_init
  a_Words_ended : Addr
  fd_Words_ended : FuncData
  F_Words_ended : Fun K "ended" "Words.ended" s_Words_ended a_Words_ended fd_Words_ended
  b_Words_ended : L2.Binds K fd_Words_ended ["self"] []
  k_Words_ended : PySem.W.keepIn K (.ref a_Words_ended) = true
  m_Words_ended : Meth K C_Words "ended" a_Words_ended
  a_Words_ahead : Addr
  fd_Words_ahead : FuncData
  F_Words_ahead : Fun K "ahead" "Words.ahead" s_Words_ahead a_Words_ahead fd_Words_ahead
  b_Words_ahead : L2.Binds K fd_Words_ahead ["self"] []
  k_Words_ahead : PySem.W.keepIn K (.ref a_Words_ahead) = true
  m_Words_ahead : Meth K C_Words "ahead" a_Words_ahead
  a_Words_refuse : Addr
  fd_Words_refuse : FuncData
  F_Words_refuse : Fun K "refuse" "Words.refuse" s_Words_refuse a_Words_refuse fd_Words_refuse
  b_Words_refuse : L2.Binds K fd_Words_refuse ["self"] []
  k_Words_refuse : PySem.W.keepIn K (.ref a_Words_refuse) = true
  m_Words_refuse : Meth K C_Words "refuse" a_Words_refuse
  a_Words_take : Addr
  fd_Words_take : FuncData
  F_Words_take : Fun K "take" "Words.take" s_Words_take a_Words_take fd_Words_take
  b_Words_take : L2.Binds K fd_Words_take ["self"] []
  k_Words_take : PySem.W.keepIn K (.ref a_Words_take) = true
  m_Words_take : Meth K C_Words "take" a_Words_take
  a_Words_one_of : Addr
  fd_Words_one_of : FuncData
  F_Words_one_of : Fun K "one_of" "Words.one_of" s_Words_one_of a_Words_one_of fd_Words_one_of
  b_Words_one_of : L2.Binds K fd_Words_one_of ["self", "choices"] []
  k_Words_one_of : PySem.W.keepIn K (.ref a_Words_one_of) = true
  m_Words_one_of : Meth K C_Words "one_of" a_Words_one_of
  a_Words_name : Addr
  fd_Words_name : FuncData
  te0_Words_name : Addr
  qe0_Words_name : ∀ H, SqT K H te0_Words_name []
  F_Words_name : FunD K "name" "Words.name" (defArgs s_Words_name) (defBody s_Words_name) (defScope s_Words_name) [.ref te0_Words_name] [] a_Words_name fd_Words_name
  ds0_Words_name : List Value
  dv0_Words_name : Vals [.ref te0_Words_name] ds0_Words_name
  db0_Words_name : L2.Binds K fd_Words_name ["self", "taken"] ds0_Words_name
  b_Words_name : L2.Binds K fd_Words_name ["self", "taken"] []
  k_Words_name : PySem.W.keepIn K (.ref a_Words_name) = true
  m_Words_name : Meth K C_Words "name" a_Words_name
  a_Words_number : Addr
  fd_Words_number : FuncData
  F_Words_number : Fun K "number" "Words.number" s_Words_number a_Words_number fd_Words_number
  b_Words_number : L2.Binds K fd_Words_number ["self", "least", "greatest"] []
  k_Words_number : PySem.W.keepIn K (.ref a_Words_number) = true
  m_Words_number : Meth K C_Words "number" a_Words_number
  a_Words_finish : Addr
  fd_Words_finish : FuncData
  F_Words_finish : Fun K "finish" "Words.finish" s_Words_finish a_Words_finish fd_Words_finish
  b_Words_finish : L2.Binds K fd_Words_finish ["self"] []
  k_Words_finish : PySem.W.keepIn K (.ref a_Words_finish) = true
  m_Words_finish : Meth K C_Words "finish" a_Words_finish
  a_read_expression : Addr
  fd_read_expression : FuncData
  F_read_expression : FunD K "read_expression" "read_expression" (defArgs s_read_expression) (defBody s_read_expression) (defScope s_read_expression) [.int 1] [] a_read_expression fd_read_expression
  ds0_read_expression : List Value
  dv0_read_expression : Vals [.int 1] ds0_read_expression
  db0_read_expression : L2.Binds K fd_read_expression ["words", "meanings", "tables", "depth"] ds0_read_expression
  b_read_expression : L2.Binds K fd_read_expression ["words", "meanings", "tables", "depth"] []
  k_read_expression : PySem.W.keepIn K (.ref a_read_expression) = true
  g_read_expression : mg "read_expression" = some (.ref a_read_expression)
  a_expression_words : Addr
  fd_expression_words : FuncData
  F_expression_words : Fun K "expression_words" "expression_words" s_expression_words a_expression_words fd_expression_words
  b_expression_words : L2.Binds K fd_expression_words ["expression"] []
  k_expression_words : PySem.W.keepIn K (.ref a_expression_words) = true
  g_expression_words : mg "expression_words" = some (.ref a_expression_words)
  a_StatementReader_init : Addr
  fd_StatementReader_init : FuncData
  F_StatementReader_init : Fun K "__init__" "StatementReader.__init__" s_StatementReader_init a_StatementReader_init fd_StatementReader_init
  b_StatementReader_init : L2.Binds K fd_StatementReader_init ["self", "words", "names"] []
  k_StatementReader_init : PySem.W.keepIn K (.ref a_StatementReader_init) = true
  m_StatementReader_init : Meth K C_StatementReader "__init__" a_StatementReader_init
  a_StatementReader_can_follow : Addr
  fd_StatementReader_can_follow : FuncData
  F_StatementReader_can_follow : Fun K "can_follow" "StatementReader.can_follow" s_StatementReader_can_follow a_StatementReader_can_follow fd_StatementReader_can_follow
  b_StatementReader_can_follow : L2.Binds K fd_StatementReader_can_follow ["self", "kind"] []
  k_StatementReader_can_follow : PySem.W.keepIn K (.ref a_StatementReader_can_follow) = true
  m_StatementReader_can_follow : Meth K C_StatementReader "can_follow" a_StatementReader_can_follow
  a_StatementReader_can_start : Addr
  fd_StatementReader_can_start : FuncData
  F_StatementReader_can_start : Fun K "can_start" "StatementReader.can_start" s_StatementReader_can_start a_StatementReader_can_start fd_StatementReader_can_start
  b_StatementReader_can_start : L2.Binds K fd_StatementReader_can_start ["self", "word", "depth"] []
  k_StatementReader_can_start : PySem.W.keepIn K (.ref a_StatementReader_can_start) = true
  m_StatementReader_can_start : Meth K C_StatementReader "can_start" a_StatementReader_can_start
  a_StatementReader_block : Addr
  fd_StatementReader_block : FuncData
  F_StatementReader_block : FunD K "block" "StatementReader.block" (defArgs s_StatementReader_block) (defBody s_StatementReader_block) (defScope s_StatementReader_block) [.int 0] [] a_StatementReader_block fd_StatementReader_block
  ds0_StatementReader_block : List Value
  dv0_StatementReader_block : Vals [.int 0] ds0_StatementReader_block
  db0_StatementReader_block : L2.Binds K fd_StatementReader_block ["self", "depth"] ds0_StatementReader_block
  b_StatementReader_block : L2.Binds K fd_StatementReader_block ["self", "depth"] []
  k_StatementReader_block : PySem.W.keepIn K (.ref a_StatementReader_block) = true
  m_StatementReader_block : Meth K C_StatementReader "block" a_StatementReader_block
  a_StatementReader_statement : Addr
  fd_StatementReader_statement : FuncData
  F_StatementReader_statement : Fun K "statement" "StatementReader.statement" s_StatementReader_statement a_StatementReader_statement fd_StatementReader_statement
  b_StatementReader_statement : L2.Binds K fd_StatementReader_statement ["self", "depth"] []
  k_StatementReader_statement : PySem.W.keepIn K (.ref a_StatementReader_statement) = true
  m_StatementReader_statement : Meth K C_StatementReader "statement" a_StatementReader_statement
  a_StatementReader_choice : Addr
  fd_StatementReader_choice : FuncData
  F_StatementReader_choice : Fun K "choice" "StatementReader.choice" s_StatementReader_choice a_StatementReader_choice fd_StatementReader_choice
  b_StatementReader_choice : L2.Binds K fd_StatementReader_choice ["self", "depth"] []
  k_StatementReader_choice : PySem.W.keepIn K (.ref a_StatementReader_choice) = true
  m_StatementReader_choice : Meth K C_StatementReader "choice" a_StatementReader_choice
  a_StatementReader_part : Addr
  fd_StatementReader_part : FuncData
  F_StatementReader_part : Fun K "part" "StatementReader.part" s_StatementReader_part a_StatementReader_part fd_StatementReader_part
  b_StatementReader_part : L2.Binds K fd_StatementReader_part ["self", "kind"] []
  k_StatementReader_part : PySem.W.keepIn K (.ref a_StatementReader_part) = true
  m_StatementReader_part : Meth K C_StatementReader "part" a_StatementReader_part
  a_StatementReader_expression : Addr
  fd_StatementReader_expression : FuncData
  F_StatementReader_expression : Fun K "expression" "StatementReader.expression" s_StatementReader_expression a_StatementReader_expression fd_StatementReader_expression
  b_StatementReader_expression : L2.Binds K fd_StatementReader_expression ["self"] []
  k_StatementReader_expression : PySem.W.keepIn K (.ref a_StatementReader_expression) = true
  m_StatementReader_expression : Meth K C_StatementReader "expression" a_StatementReader_expression
  a_block_words : Addr
  fd_block_words : FuncData
  F_block_words : Fun K "block_words" "block_words" s_block_words a_block_words fd_block_words
  b_block_words : L2.Binds K fd_block_words ["block"] []
  k_block_words : PySem.W.keepIn K (.ref a_block_words) = true
  g_block_words : mg "block_words" = some (.ref a_block_words)
  a_statement_words : Addr
  fd_statement_words : FuncData
  F_statement_words : Fun K "statement_words" "statement_words" s_statement_words a_statement_words fd_statement_words
  b_statement_words : L2.Binds K fd_statement_words ["statement"] []
  k_statement_words : PySem.W.keepIn K (.ref a_statement_words) = true
  g_statement_words : mg "statement_words" = some (.ref a_statement_words)
  a_choice_words : Addr
  fd_choice_words : FuncData
  F_choice_words : Fun K "choice_words" "choice_words" s_choice_words a_choice_words fd_choice_words
  b_choice_words : L2.Binds K fd_choice_words ["statement"] []
  k_choice_words : PySem.W.keepIn K (.ref a_choice_words) = true
  g_choice_words : mg "choice_words" = some (.ref a_choice_words)
  a_Game_init : Addr
  fd_Game_init : FuncData
  F_Game_init : Fun K "__init__" "Game.__init__" s_Game_init a_Game_init fd_Game_init
  b_Game_init : L2.Binds K fd_Game_init ["self", "variables", "tables", "lots", "procs"] []
  k_Game_init : PySem.W.keepIn K (.ref a_Game_init) = true
  m_Game_init : Meth K C_Game "__init__" a_Game_init
  a_Game_eq : Addr
  fd_Game_eq : FuncData
  F_Game_eq : Fun K "__eq__" "Game.__eq__" s_Game_eq a_Game_eq fd_Game_eq
  b_Game_eq : L2.Binds K fd_Game_eq ["self", "other"] []
  k_Game_eq : PySem.W.keepIn K (.ref a_Game_eq) = true
  m_Game_eq : Meth K C_Game "__eq__" a_Game_eq
  a_Game_proc : Addr
  fd_Game_proc : FuncData
  F_Game_proc : Fun K "proc" "Game.proc" s_Game_proc a_Game_proc fd_Game_proc
  b_Game_proc : L2.Binds K fd_Game_proc ["self", "name"] []
  k_Game_proc : PySem.W.keepIn K (.ref a_Game_proc) = true
  m_Game_proc : Meth K C_Game "proc" a_Game_proc
  a_read_game : Addr
  fd_read_game : FuncData
  te0_read_game : Addr
  qe0_read_game : ∀ H, SqT K H te0_read_game []
  F_read_game : FunD K "read_game" "read_game" (defArgs s_read_game) (defBody s_read_game) (defScope s_read_game) [.ref te0_read_game] [] a_read_game fd_read_game
  ds0_read_game : List Value
  dv0_read_game : Vals [.ref te0_read_game] ds0_read_game
  db0_read_game : L2.Binds K fd_read_game ["text", "asked"] ds0_read_game
  b_read_game : L2.Binds K fd_read_game ["text", "asked"] []
  k_read_game : PySem.W.keepIn K (.ref a_read_game) = true
  g_read_game : mg "read_game" = some (.ref a_read_game)
  a_first_parts : Addr
  fd_first_parts : FuncData
  F_first_parts : Fun K "first_parts" "first_parts" s_first_parts a_first_parts fd_first_parts
  b_first_parts : L2.Binds K fd_first_parts ["rows"] []
  k_first_parts : PySem.W.keepIn K (.ref a_first_parts) = true
  g_first_parts : mg "first_parts" = some (.ref a_first_parts)
  a_another : Addr
  fd_another : FuncData
  F_another : Fun K "another" "another" s_another a_another fd_another
  b_another : L2.Binds K fd_another ["words", "kind", "found"] []
  k_another : PySem.W.keepIn K (.ref a_another) = true
  g_another : mg "another" = some (.ref a_another)
  a_read_variables : Addr
  fd_read_variables : FuncData
  F_read_variables : Fun K "read_variables" "read_variables" s_read_variables a_read_variables fd_read_variables
  b_read_variables : L2.Binds K fd_read_variables ["words"] []
  k_read_variables : PySem.W.keepIn K (.ref a_read_variables) = true
  g_read_variables : mg "read_variables" = some (.ref a_read_variables)
  a_read_maps : Addr
  fd_read_maps : FuncData
  F_read_maps : Fun K "read_maps" "read_maps" s_read_maps a_read_maps fd_read_maps
  b_read_maps : L2.Binds K fd_read_maps ["words", "kind"] []
  k_read_maps : PySem.W.keepIn K (.ref a_read_maps) = true
  g_read_maps : mg "read_maps" = some (.ref a_read_maps)
  a_read_procs : Addr
  fd_read_procs : FuncData
  F_read_procs : Fun K "read_procs" "read_procs" s_read_procs a_read_procs fd_read_procs
  b_read_procs : L2.Binds K fd_read_procs ["words", "names"] []
  k_read_procs : PySem.W.keepIn K (.ref a_read_procs) = true
  g_read_procs : mg "read_procs" = some (.ref a_read_procs)
  a_read_proc : Addr
  fd_read_proc : FuncData
  F_read_proc : Fun K "read_proc" "read_proc" s_read_proc a_read_proc fd_read_proc
  b_read_proc : L2.Binds K fd_read_proc ["words", "names", "taken"] []
  k_read_proc : PySem.W.keepIn K (.ref a_read_proc) = true
  g_read_proc : mg "read_proc" = some (.ref a_read_proc)
  a_read_locals : Addr
  fd_read_locals : FuncData
  F_read_locals : Fun K "read_locals" "read_locals" s_read_locals a_read_locals fd_read_locals
  b_read_locals : L2.Binds K fd_read_locals ["words", "variables"] []
  k_read_locals : PySem.W.keepIn K (.ref a_read_locals) = true
  g_read_locals : mg "read_locals" = some (.ref a_read_locals)
  a_game_text : Addr
  fd_game_text : FuncData
  F_game_text : Fun K "game_text" "game_text" s_game_text a_game_text fd_game_text
  b_game_text : L2.Binds K fd_game_text ["game"] []
  k_game_text : PySem.W.keepIn K (.ref a_game_text) = true
  g_game_text : mg "game_text" = some (.ref a_game_text)
  a_row_words : Addr
  fd_row_words : FuncData
  F_row_words : Fun K "row_words" "row_words" s_row_words a_row_words fd_row_words
  b_row_words : L2.Binds K fd_row_words ["kind", "rows"] []
  k_row_words : PySem.W.keepIn K (.ref a_row_words) = true
  g_row_words : mg "row_words" = some (.ref a_row_words)
  a_proc_words : Addr
  fd_proc_words : FuncData
  F_proc_words : Fun K "proc_words" "proc_words" s_proc_words a_proc_words fd_proc_words
  b_proc_words : L2.Binds K fd_proc_words ["proc"] []
  k_proc_words : PySem.W.keepIn K (.ref a_proc_words) = true
  g_proc_words : mg "proc_words" = some (.ref a_proc_words)
  a_law_cell : Addr
  fd_law_cell : FuncData
  F_law_cell : Fun K "_law_cell" "_law_cell" s_law_cell a_law_cell fd_law_cell
  b_law_cell : L2.Binds K fd_law_cell ["script", "k"] []
  k_law_cell : PySem.W.keepIn K (.ref a_law_cell) = true
  g_law_cell : mg "_law_cell" = some (.ref a_law_cell)
  a_law_at : Addr
  fd_law_at : FuncData
  F_law_at : Fun K "_law_at" "_law_at" s_law_at a_law_at fd_law_at
  b_law_at : L2.Binds K fd_law_at ["text"] []
  k_law_at : PySem.W.keepIn K (.ref a_law_at) = true
  g_law_at : mg "_law_at" = some (.ref a_law_at)
  a_law_many : Addr
  fd_law_many : FuncData
  F_law_many : Fun K "_law_many" "_law_many" s_law_many a_law_many fd_law_many
  b_law_many : L2.Binds K fd_law_many ["head", "parts", "count", "most", "rest"] []
  k_law_many : PySem.W.keepIn K (.ref a_law_many) = true
  g_law_many : mg "_law_many" = some (.ref a_law_many)
  a_law_deep : Addr
  fd_law_deep : FuncData
  F_law_deep : Fun K "_law_deep" "_law_deep" s_law_deep a_law_deep fd_law_deep
  b_law_deep : L2.Binds K fd_law_deep ["parts", "count", "most", "rest", "steps"] []
  k_law_deep : PySem.W.keepIn K (.ref a_law_deep) = true
  g_law_deep : mg "_law_deep" = some (.ref a_law_deep)
  a_law_tall : Addr
  fd_law_tall : FuncData
  F_law_tall : Fun K "_law_tall" "_law_tall" s_law_tall a_law_tall fd_law_tall
  b_law_tall : L2.Binds K fd_law_tall ["count"] []
  k_law_tall : PySem.W.keepIn K (.ref a_law_tall) = true
  g_law_tall : mg "_law_tall" = some (.ref a_law_tall)
  a_law_fixed : Addr
  fd_law_fixed : FuncData
  F_law_fixed : Fun K "_law_fixed" "_law_fixed" s_law_fixed a_law_fixed fd_law_fixed
  b_law_fixed : L2.Binds K fd_law_fixed [] []
  k_law_fixed : PySem.W.keepIn K (.ref a_law_fixed) = true
  g_law_fixed : mg "_law_fixed" = some (.ref a_law_fixed)
  a_law : Addr
  fd_law : FuncData
  F_law : Fun K "law" "law" s_law a_law fd_law
  b_law : L2.Binds K fd_law ["script"] []
  k_law : PySem.W.keepIn K (.ref a_law) = true
  g_law : mg "law" = some (.ref a_law)
  mk_Words : Mk K C_Words a_Words_init
  mk_StatementReader : Mk K C_StatementReader a_StatementReader_init
  mk_Game : Mk K C_Game a_Game_init
  C_BadText : Addr
  g_BadText : mg "BadText" = some (.ref C_BadText)
  kc_BadText : PySem.W.keepIn K (.ref C_BadText) = true
  xb_BadText : PySem.W.subIn K (.ref C_BadText) (.type "BaseException") = some true
  xt_BadText : PySem.W.typeIn K (.ref C_BadText) = some (.type "type")
  xd_BadText : PySem.W.hasDictIn K C_BadText = true
  a_BadText_init : Addr
  fd_BadText_init : FuncData
  E_BadText : ErrF K mg C_BadText a_BadText_init fd_BadText_init "BadText.__init__" s_BadText_init file "at"
  b_BadText_init : L2.Binds K fd_BadText_init [("self" : Str), "at"] []
  z_super : mg "super" = none
  a_OPERATORS : Addr
  g_OPERATORS : mg "OPERATORS" = some (.ref a_OPERATORS)
  q_OPERATORS : ∀ H, SqT K H a_OPERATORS ((["+", "-", "*", "/", "mod", "<", "="] : List Str).map V.str)
  a_LOOKS : Addr
  g_LOOKS : mg "LOOKS" = some (.ref a_LOOKS)
  q_LOOKS : ∀ H, SqT K H a_LOOKS ((["has", "cell"] : List Str).map V.str)
  g_DEEPEST_EXPRESSION : ∃ t, mg "DEEPEST_EXPRESSION" = some (.int 8 t)
  g_LONGEST_NAME : ∃ t, mg "LONGEST_NAME" = some (.int 12 t)
  g_LONGEST_NUMBER : ∃ t, mg "LONGEST_NUMBER" = some (.int 5 t)
  g_GREATEST_NUMBER : ∃ t, mg "GREATEST_NUMBER" = some (.int 65535 t)
  g_LETTERS : ∃ t, mg "LETTERS" = some (.str "abcdefghijklmnopqrstuvwxyz" t)
  g_DIGITS : ∃ t, mg "DIGITS" = some (.str "0123456789" t)
  a_KEY_WORDS : Addr
  g_KEY_WORDS : mg "KEY_WORDS" = some (.ref a_KEY_WORDS)
  q_KEY_WORDS : ∀ H, SqT K H a_KEY_WORDS ((["var", "table", "lots", "proc", "local", "set", "let", "draw", "put", "lot", "ask", "if", "else", "end", "bad", "after", "answer", "has", "cell", "mod"] : List Str).map V.str)
  g_DEEPEST_STATEMENT : ∃ t, mg "DEEPEST_STATEMENT" = some (.int 6 t)
  g_MOST_DRAWN : ∃ t, mg "MOST_DRAWN" = some (.int 64 t)
  g_MOST_OF_A_KIND : ∃ t, mg "MOST_OF_A_KIND" = some (.int 6 t)
  g_MOST_LOCALS : ∃ t, mg "MOST_LOCALS" = some (.int 6 t)
  g_GREATEST_COUNT : ∃ t, mg "GREATEST_COUNT" = some (.int 64 t)
  a_FORMS : Addr
  g_FORMS : mg "FORMS" = some (.ref a_FORMS)
  z_len : mg "len" = none
  z_all : mg "all" = none
  z_int : mg "int" = none
  z_str : mg "str" = none
  z_tuple : mg "tuple" = none
  z_zip : mg "zip" = none
  z_isinstance : mg "isinstance" = none
  z_list : mg "list" = none
  z_range : mg "range" = none
  xga_BadText : PySem.W.findIn K (.ref C_BadText) "__getattribute__" = some (some (.builtin "BaseException.__getattribute__"))
  xgg_BadText : PySem.W.findIn K (.ref C_BadText) "__getattr__" = some none
  sub_tt : PySem.W.subIn K (.ref C_BadText) (.ref C_BadText) = some true
def spIsName : Sp := fun vs H Q _ => ∃ x : Str, vs = [.str x] ∧ x.length ≤ 1000000 ∧ ∀ H', Same H H' → Q (.bl (isName x)) H'
def spIsNum : Sp := fun vs H Q _ => ∃ x : Str, vs = [.str x] ∧ x.length ≤ 1000000 ∧ ∀ H', Same H H' → Q (.bl (isNum x)) H'
theorem a_le : (1000000 : Nat) ≤ sizeLine := by decide
theorem all_map {α : Type} (f : α → Bool) (xs : List α) : (xs.map f).all id = xs.all f := by
  rw [List.all_map]
  rfl
theorem tk_next {α β : Type} (f : α → β) (xs : List α) {i : Nat} {c : α} (h : xs[i]? = some c) : (xs.take i).map f ++ [f c] = (xs.take (i + 1)).map f := by
  rw [take_more h, List.map_append]
  rfl
section
variable {P : Program} {w : World} {K : PySem.W.Frag} {mg : Str → Option Value} {base : Heap} {file : Str}

theorem ok_is_name (T : Txt K mg file) : FnOk P w K mg base CX0 1 T.a_is_name T.fd_is_name ["word"] spIsName := by
  refine T.F_is_name.ok sc_is_name (fun vs H Q E h => ?_) (fun cdv A outer s H vs Q E hr h => ?_)
  · obtain ⟨x, rfl, _⟩ := h
    rfl
  obtain ⟨x, rfl, hx, q⟩ := h
  refine ⟨_, (pss_cons (ps_if (PW.pt (pw_or (pt_not (pt_chain op_le op_le pe_int (pe_callB call_len_str (by rfl) T.z_len (by decide +kernel) (pa_cons (pv 0) pa_nil)) (pe_glob (v := .int 12) rfl T.g_LONGEST_NAME.choose_spec ⟨_, rfl⟩))) (pw_or1 (pt_cmpR op_in_seq (pv 0) (pe_glob (v := .ref T.a_KEY_WORDS) rfl T.g_KEY_WORDS rfl) rfl))))
      (pss_one (ps_ret pe_bl))
      pss_nil)
    (pss_one (ps_ret (pe_and (pe_cmpR op_in_sign (pe_ix ix_str (pv 0) pe_int (fun _ _ => rfl)) (pe_glob (v := .str "abcdefghijklmnopqrstuvwxyz") rfl T.g_LETTERS.choose_spec ⟨_, rfl⟩) rfl) (pe_one (pe_callB (cr_all rfl) (by rfl) T.z_all (by decide +kernel) (pa_cons (pe_lc (own := [("sign", 1)]) (g := gName 1) (tt := tYes) rfl sc_is_name.nd (pi_str (pv 0)) (blkOk_by (own := [("sign", 1)]) (N := ["word", "sign"]) (sc := defScope s_is_name) (by decide +kernel)) (fun _ _ _ _ _ => pg_name (i := 1) sc_is_name.nd rfl (Or.inl rfl)) (fun _ _ _ _ _ => pts_nil) (fun _ _ _ _ _ => (pe_or (pe_cmpR op_in_sign (pv 1) (pe_glob (v := .str "abcdefghijklmnopqrstuvwxyz") rfl T.g_LETTERS.choose_spec ⟨_, rfl⟩) rfl) (pe_one (pe_cmpR op_in_sign (pv 1) (pe_glob (v := .str "0123456789") rfl T.g_DIGITS.choose_spec ⟨_, rfl⟩) rfl))))) pa_nil))))))), ?_⟩
  have no : isName x = false → Q (.bl false) H := fun e => by rw [← e]; exact q H (Same.refl _)
  have hl := len_signs x
  refine ⟨_, rfl, x, rfl, Nat.le_trans hx a_le, _, _, rfl, rfl, _, rfl, ?_⟩
  refine ite2 (fun c1 => ?_) (fun c1 => ?_)
  rotate_left
  · refine ⟨_, rfl, ?_⟩
    refine no ?_
    have := of_decide_eq_false (Bool.eq_false_iff.mpr c1)
    unfold isName
    rw [show decide (1 ≤ x.length ∧ x.length ≤ 12) = false from decide_eq_false (by omega)]
    rfl
  refine ⟨_, _, rfl, rfl, _, rfl, ?_⟩
  have c1' := of_decide_eq_true c1
  refine ite2 (fun c2 => ?_) (fun c2 => ?_)
  · refine no ?_
    have : ¬ x.length ≤ 12 := by
      intro z
      rw [show decide ((x.length : Int) ≤ 12) = true from decide_eq_true (by omega)] at c2
      cases c2
    unfold isName
    rw [show decide (1 ≤ x.length ∧ x.length ≤ 12) = false from decide_eq_false (by omega)]
    rfl
  have c2' : x.length ≤ 12 := by
    cases e : decide ((x.length : Int) ≤ 12) with
    | true => have := of_decide_eq_true e; omega
    | false => rw [e] at c2; exact absurd rfl c2
  refine ⟨_, rfl, _, _, rfl, .inr (T.q_KEY_WORDS H), rfl, flat_strs _, _, rfl, ?_⟩
  rw [if_neg Bool.false_ne_true, inV_strs]
  refine ite2 (fun c3 => ?_) (fun c3 => ?_)
  · refine no ?_
    unfold isName
    rw [show decide (x ∈ keys) = true from c3]
    simp
  have c3' : decide (x ∈ keys) = false := Bool.eq_false_iff.mpr c3
  obtain ⟨c, cs, ec⟩ : ∃ c cs, signs x = c :: cs := by
    cases e : signs x with
    | nil => rw [e] at hl; simp at hl; omega
    | cons c cs => exact ⟨c, cs, rfl⟩
  have bas : isName x = (letB c && (signs x).all fun c => letB c || digB c) := by
    unfold isName
    rw [decide_eq_true (show 1 ≤ x.length ∧ x.length ≤ 12 from ⟨by omega, c2'⟩), c3', ec]
    rfl
  have e0 : atI (signs x) 0 = some c := atI_nat (j := 0) (show (signs x)[0]? = some c by rw [ec] <;> rfl)
  refine ⟨_, rfl, x, 0, c, rfl, rfl, Nat.le_trans hx a_le, e0, _, _, rfl, rfl, ?_⟩
  show ∃ k, V.bl (letB c) = .bl k ∧ _
  refine ⟨_, rfl, ?_⟩
  refine ite2 (fun c4 => ?_) (fun c4 => ?_)
  rotate_left
  · refine no ?_
    rw [bas, Bool.eq_false_iff.mpr c4]
    rfl
  refine ⟨_, rfl, _, rfl, fun D hD => ?_⟩
  refine lc_it walk_str (fun i H' => Same H H' ∧ H' D = some (.lst (((signs x).take i).map fun c => V.bl (letB c || digB c)))) ⟨Gm.same_new hD _, upd_same⟩ (fun _ _ _ _ => trivial) ?_ ?_
  · rintro i v H1 H2 hi ⟨m, e1⟩ ⟨rfl, c', e2, rfl⟩
    refine ⟨rfl, ?_⟩
    have e2' : (signs x)[i]? = some c' := by unfold signs; rw [Array.getElem?_toList]; exact e2
    have fin : ∀ b, (letB c' || digB c') = b → ∃ acc, H2 D = some (.lst acc) ∧ acc.length < sizeLine ∧ Same H (upd H2 D (.lst (acc ++ [V.bl b]))) ∧ upd H2 D (.lst (acc ++ [V.bl b])) D = some (.lst (((signs x).take (i + 1)).map fun c => V.bl (letB c || digB c))) := by
      intro b eb
      refine ⟨_, e1, ?_, fun a o z => ?_, ?_⟩
      · rw [List.length_map, List.length_take]
        exact Nat.lt_of_le_of_lt (Nat.min_le_right _ _) (Nat.lt_of_le_of_lt (show (signs x).length ≤ 12 by omega) (by decide))
      · rw [upd_ne (ne_of_none z hD)]
        exact m _ _ z
      · rw [upd_same, take_more e2', List.map_append, ← eb]
        rfl
    refine ⟨_, rfl, c', _, rfl, rfl, ?_⟩
    show ∃ k, V.bl (letB c') = .bl k ∧ _
    refine ⟨_, rfl, ite2 (fun d => ?_) (fun d => ?_)⟩
    · exact fin true (by rw [d]; rfl)
    · refine ⟨_, rfl, c', _, rfl, rfl, ?_⟩
      show _
      exact fin (digB c') (by rw [Bool.eq_false_iff.mpr d]; rfl)
  · rintro H1 ⟨m, e1⟩
    have e1' : H1 D = some (.lst (((signs x).map fun c => letB c || digB c).map V.bl)) := by
      rw [e1, List.map_map]
      have : (signs x).take x.cps.size = signs x := by
        rw [show x.cps.size = (signs x).length from (Array.length_toList).symm, List.take_length]
      rw [this]
      rfl
    refine ⟨D, _, rfl, SqL.of e1', ?_⟩
    rw [all_map]
    have := q H1 m
    rw [bas, c4, Bool.true_and] at this
    exact this
theorem ok_is_number (T : Txt K mg file) : FnOk P w K mg base CX0 1 T.a_is_number T.fd_is_number ["word"] spIsNum := by
  refine T.F_is_number.ok sc_is_number (fun vs H Q E h => ?_) (fun cdv A outer s H vs Q E hr h => ?_)
  · obtain ⟨x, rfl, _⟩ := h
    rfl
  obtain ⟨x, rfl, hx, q⟩ := h
  refine ⟨_, (pss_cons (ps_if (PW.pt (pw_or (pt_not (pt_chain op_le op_le pe_int (pe_callB call_len_str (by rfl) T.z_len (by decide +kernel) (pa_cons (pv 0) pa_nil)) (pe_glob (v := .int 5) rfl T.g_LONGEST_NUMBER.choose_spec ⟨_, rfl⟩))) (pw_or1 (pt_not (pt_val (pe_callB (cr_all rfl) (by rfl) T.z_all (by decide +kernel) (pa_cons (pe_lc (own := [("sign", 1)]) (g := gName 1) (tt := tYes) rfl sc_is_number.nd (pi_str (pv 0)) (blkOk_by (own := [("sign", 1)]) (N := ["word", "sign"]) (sc := defScope s_is_number) (by decide +kernel)) (fun _ _ _ _ _ => pg_name (i := 1) sc_is_number.nd rfl (Or.inl rfl)) (fun _ _ _ _ _ => pts_nil) (fun _ _ _ _ _ => (pe_cmpR op_in_sign (pv 1) (pe_glob (v := .str "0123456789") rfl T.g_DIGITS.choose_spec ⟨_, rfl⟩) rfl))) pa_nil)))))))
      (pss_one (ps_ret pe_bl))
      pss_nil)
    (pss_cons (ps_if (pt_cmpR op_eq (pe_ix ix_str (pv 0) pe_int (fun _ _ => rfl)) pe_str (nomark _))
      (pss_one (ps_ret (pe_cmpR op_eq (pv 0) pe_str (nomark _))))
      pss_nil)
    (pss_one (ps_ret (pe_cmpR op_le (pe_callTy call_int_str (by rfl) T.z_int (by decide +kernel) (pa_cons (pv 0) pa_nil)) (pe_glob (v := .int 65535) rfl T.g_GREATEST_NUMBER.choose_spec ⟨_, rfl⟩) (nomark _)))))), ?_⟩
  have hl := len_signs x
  have no : isNum x = false → ∀ H', Same H H' → Q (.bl false) H' := fun e H' m => by rw [← e]; exact q H' m
  refine ⟨_, rfl, x, rfl, Nat.le_trans hx a_le, _, _, rfl, rfl, _, rfl, ?_⟩
  refine ite2 (fun c1 => ?_) (fun c1 => ?_)
  rotate_left
  · refine ⟨_, rfl, ?_⟩
    refine no ?_ H (Same.refl _)
    have := of_decide_eq_false (Bool.eq_false_iff.mpr c1)
    unfold isNum
    rw [show decide (1 ≤ x.length ∧ x.length ≤ 5) = false from decide_eq_false (by omega)]
    rfl
  refine ⟨_, _, rfl, rfl, _, rfl, ?_⟩
  have c1' := of_decide_eq_true c1
  refine ite2 (fun c2 => ?_) (fun c2 => ?_)
  · refine no ?_ H (Same.refl _)
    have : ¬ x.length ≤ 5 := by
      intro z
      rw [show decide ((x.length : Int) ≤ 5) = true from decide_eq_true (by omega)] at c2
      cases c2
    unfold isNum
    rw [show decide (1 ≤ x.length ∧ x.length ≤ 5) = false from decide_eq_false (by omega)]
    rfl
  have c2' : x.length ≤ 5 := by
    cases e : decide ((x.length : Int) ≤ 5) with
    | true => have := of_decide_eq_true e; omega
    | false => rw [e] at c2; exact absurd rfl c2
  obtain ⟨c, cs, ec⟩ : ∃ c cs, signs x = c :: cs := by
    cases e : signs x with
    | nil => rw [e] at hl; simp at hl; omega
    | cons c cs => exact ⟨c, cs, rfl⟩
  have bas : isNum x = ((signs x).all digB && if c = 48 then decide (x = "0") else decide (numW x ≤ 65535)) := by
    unfold isNum
    rw [decide_eq_true (show 1 ≤ x.length ∧ x.length ≤ 5 from ⟨by omega, c2'⟩), ec]
    rfl
  have e0 : atI (signs x) 0 = some c := atI_nat (j := 0) (show (signs x)[0]? = some c by rw [ec] <;> rfl)
  refine ⟨_, rfl, _, rfl, fun D hD => ?_⟩
  refine lc_it walk_str (fun i H' => Same H H' ∧ H' D = some (.lst (((signs x).take i).map fun c => V.bl (digB c)))) ⟨Gm.same_new hD _, upd_same⟩ (fun _ _ _ _ => trivial) ?_ ?_
  · rintro i v H1 H2 hi ⟨m, e1⟩ ⟨rfl, c', e2, rfl⟩
    refine ⟨rfl, ?_⟩
    have e2' : (signs x)[i]? = some c' := by unfold signs; rw [Array.getElem?_toList]; exact e2
    refine ⟨_, rfl, c', _, rfl, rfl, _, e1, ?_, fun a o z => ?_, ?_⟩
    · rw [List.length_map, List.length_take]
      exact Nat.lt_of_le_of_lt (Nat.min_le_right _ _) (Nat.lt_of_le_of_lt (show (signs x).length ≤ 12 by omega) (by decide))
    · rw [upd_ne (ne_of_none z hD)]
      exact m _ _ z
    · rw [upd_same, take_more e2', List.map_append]
      rfl
  · rintro H1 ⟨m, e1⟩
    have e1' : H1 D = some (.lst (((signs x).map digB).map V.bl)) := by
      rw [e1, List.map_map]
      have : (signs x).take x.cps.size = signs x := by
        rw [show x.cps.size = (signs x).length from (Array.length_toList).symm, List.take_length]
      rw [this]
      rfl
    refine ⟨D, _, rfl, SqL.of e1', ?_⟩
    rw [all_map]
    refine ⟨_, rfl, ?_⟩
    refine ite2 (fun c3 => ?_) (fun c3 => ?_)
    · refine no ?_ H1 m
      have : (signs x).all digB = false := by
        cases e : (signs x).all digB with
        | false => rfl
        | true => rw [e] at c3; cases c3
      rw [bas, this]
      rfl
    have c3' : (signs x).all digB = true := by
      cases e : (signs x).all digB with
      | true => rfl
      | false => rw [e] at c3; exact absurd rfl c3
    have s0 : ("0" : Str) = ⟨#[48]⟩ := by decide +kernel
    have d0 : decide (V.str (⟨#[c]⟩ : Str) = V.str ("0" : Str)) = decide (c = 48) := by
      rw [s0]
      refine decide_eq_decide.mpr ⟨fun z => ?_, fun z => by rw [z]⟩
      have z1 := V.str.inj z
      have z2 : (#[c] : Array Nat) = #[48] := congrArg Str.cps z1
      simpa using z2
    have qn := q H1 m
    rw [bas, c3', Bool.true_and] at qn
    refine ⟨_, rfl, x, 0, c, rfl, rfl, Nat.le_trans hx a_le, e0, ?_⟩
    refine ⟨rfl, _, rfl, ?_⟩
    rw [d0]
    refine ite2 (fun c4 => ?_) (fun c4 => ?_)
    · rw [if_pos (of_decide_eq_true c4)] at qn
      refine ⟨_, rfl, rfl, ?_⟩
      have : decide (V.str x = V.str ("0" : Str)) = decide (x = ("0" : Str)) := decide_eq_decide.mpr ⟨V.str.inj, congrArg V.str⟩
      rw [this]
      exact qn
    · rw [if_neg (of_decide_eq_false (Bool.eq_false_iff.mpr c4))] at qn
      refine ⟨_, rfl, x, _, rfl, num_text c3' (by omega) c2', by omega, _, _, rfl, rfl, ?_⟩
      have : decide (((numW x : Nat) : Int) ≤ 65535) = decide (numW x ≤ 65535) := decide_eq_decide.mpr ⟨by omega, by omega⟩
      show Q (.bl (decide (((numW x : Nat) : Int) ≤ 65535))) H1
      rw [this]
      exact qn
/-! ### the object that takes words -/
theorem ok_ended (T : Txt K mg file) : FnOk P w K mg base CX0 1 T.a_Words_ended T.fd_Words_ended ["self"] (spEnded T.C_Words) := by
  refine T.F_Words_ended.ok sc_Words_ended (fun vs H Q E h => ?_) (fun cdv A outer s H vs Q E hr h => ?_)
  · obtain ⟨p, l, ws, i, rfl, _⟩ := h
    rfl
  obtain ⟨p, l, ws, i, rfl, W, q⟩ := h
  refine ⟨_, (pss_one (ps_ret (pe_cmpR op_eq (pe_fld (pv 0) rfl) (pe_callB call_len_seq (by rfl) T.z_len (by decide +kernel) (pa_cons (pe_fld (pv 0) rfl) pa_nil)) (nomark _)))), ?_⟩
  obtain ⟨dx, fs, e1, e2, e3, e4, e5⟩ := W.ob
  refine ⟨_, rfl, p, _, _, _, _, rfl, e1, T.cl_Words, T.na_Words_at, e3, ?_⟩
  refine ⟨_, rfl, p, _, _, _, _, rfl, e1, T.cl_Words, T.na_Words_words, e2, ?_⟩
  refine ⟨l, _, rfl, .inl (SqL.of W.li), rfl, ?_⟩
  have : decide (V.int (i : Int) = V.int ((ws.map V.str).length : Nat)) = decide (i = ws.length) := by
    rw [List.length_map]
    exact decide_eq_decide.mpr ⟨fun z => Int.ofNat.inj (V.int.inj z), fun z => by rw [z]⟩
  show Q (.bl _) H
  rw [this]
  exact q
theorem ok_ahead (T : Txt K mg file) : FnOk P w K mg base CX0 2 T.a_Words_ahead T.fd_Words_ahead ["self"] (spAhead T.C_Words) := by
  have G_Words_ended : FnOk P w K mg base CX0 1 T.a_Words_ended T.fd_Words_ended ["self"] (spEnded T.C_Words) := ok_ended T
  refine T.F_Words_ahead.ok sc_Words_ahead (fun vs H Q E h => ?_) (fun cdv A outer s H vs Q E hr h => ?_)
  · obtain ⟨p, l, ws, i, rfl, _⟩ := h
    rfl
  obtain ⟨p, l, ws, i, rfl, W, q⟩ := h
  refine ⟨_, (pss_cons (ps_if (pt_val (pe_meth0 (pv 0) T.cl_Words T.m_Words_ended G_Words_ended (hr.mono (by decide)) T.b_Words_ended .nil pass0))
      (pss_one (ps_ret pe_str))
      pss_nil)
    (pss_one (ps_ret (pe_ix ix_list (pe_fld (pv 0) rfl) (pe_fld (pv 0) rfl) (fun _ _ => rfl))))), ?_⟩
  obtain ⟨dx, fs, e1, e2, e3, e4, e5⟩ := W.ob
  refine ⟨_, rfl, p, _, _, rfl, e1, e4 _ (by decide) (by decide), p, l, ws, i, rfl, W, _, rfl, ?_⟩
  refine ite2 (fun c => ?_) (fun c => ?_)
  · have c' := of_decide_eq_true c
    have : wd ws i = Str.empty := by unfold wd; rw [c', List.getD_eq_getElem?_getD, List.getElem?_eq_none (Nat.le_refl _)]; rfl
    rw [this] at q
    exact q
  · have c' : i ≠ ws.length := of_decide_eq_false (Bool.eq_false_iff.mpr c)
    have hi : i < ws.length := Nat.lt_of_le_of_ne W.le c'
    have ew : ws[i]? = some (wd ws i) := by unfold wd; rw [List.getD_eq_getElem?_getD, List.getElem?_eq_getElem hi]; rfl
    refine ⟨_, rfl, p, _, _, _, _, rfl, e1, T.cl_Words, T.na_Words_words, e2, ?_⟩
    refine ⟨_, rfl, p, _, _, _, _, rfl, e1, T.cl_Words, T.na_Words_at, e3, ?_⟩
    exact ⟨l, _, _, _, rfl, rfl, SqL.of W.li, atI_nat (by rw [List.getElem?_map, ew]; rfl), q⟩
theorem ok_refuse (hP : PrF P file) (T : Txt K mg file) : FnOk P w K mg base (L2.CX P w) 4 T.a_Words_refuse T.fd_Words_refuse ["self"] (spRefuse T.C_Words T.C_BadText) := by
  refine T.F_Words_refuse.okX sc_Words_refuse (fun vs H Q E h => ?_) (fun cdv A outer s H vs Q E hr h => ?_)
  · obtain ⟨p, l, ws, i, rfl, _⟩ := h
    rfl
  obtain ⟨p, l, ws, i, rfl, W, q⟩ := h
  refine ⟨_, (pss_one (ps_raise rfl (takes_of rfl rfl rfl rfl) (pmk_err T.E_BadText (err_BadText (k := 0) T.E_BadText hP) T.b_BadText_init (hr.mono (by decide)) rfl T.g_BadText (pa_cons (pe_fld (pv 0) rfl) pa_nil)))), ?_⟩
  obtain ⟨dx, fs, e1, e2, e3, e4, e5⟩ := W.ob
  refine ⟨_, rfl, p, _, _, _, _, rfl, e1, T.cl_Words, T.na_Words_at, e3, _, rfl, ⟨i, rfl, ?_⟩, fun d hd => ?_⟩
  · have := W.le
    have := W.sz
    omega
  · exact q d _ (fun b o e _ => by rw [upd_ne (ne_of_none e hd)]; exact e) upd_same
theorem ok_take (T : Txt K mg file) : FnOk P w K mg base CX0 3 T.a_Words_take T.fd_Words_take ["self"] (spTake T.C_Words) := by
  have G_Words_ahead : FnOk P w K mg base CX0 2 T.a_Words_ahead T.fd_Words_ahead ["self"] (spAhead T.C_Words) := ok_ahead T
  refine T.F_Words_take.ok sc_Words_take (fun vs H Q E h => ?_) (fun cdv A outer s H vs Q E hr h => ?_)
  · obtain ⟨p, l, ws, i, rfl, _⟩ := h
    rfl
  obtain ⟨p, l, ws, i, rfl, W, hi, q⟩ := h
  refine ⟨_, (pss_cons (ps_set (i := 1) sc_Words_take.nd rfl (Or.inl rfl) (pe_meth0 (pv 0) T.cl_Words T.m_Words_ahead G_Words_ahead (hr.mono (by decide)) T.b_Words_ahead .nil pass0))
    (pss_cons (ps_fldaug (pv 0) pe_int in_add)
    (pss_one (ps_ret (pv 1))))), ?_⟩
  obtain ⟨dx, fs, e1, e2, e3, e4, e5⟩ := W.ob
  refine ⟨_, rfl, p, _, _, rfl, e1, e4 _ (by decide) (by decide), p, l, ws, i, rfl, W, ?_⟩
  refine ⟨_, rfl, p, _, _, _, _, rfl, e1, T.cl_Words, T.na_Words_at, e3, _, _, rfl, rfl, dx, fs, e1, by omega, _, rfl, ?_⟩
  refine q _ But.upd ⟨⟨dx, _, upd_same, ?_, ?_, fun m h1 h2 => ?_, ?_⟩, ?_, by omega, W.sz, W.wl⟩
  · rw [lookup_putF, if_neg (by decide +kernel)]
    exact e2
  · rw [lookup_putF, if_pos rfl]
    exact congrArg some (congrArg V.int (by omega))
  · rw [lookup_putF, if_neg h2]
    exact e4 m h1 h2
  · rw [putF_len e3]
    exact e5
  · rw [upd_ne W.ne]
    exact W.li
theorem ok_one_of (hP : PrF P file) (T : Txt K mg file) : FnOk P w K mg base (L2.CX P w) 5 T.a_Words_one_of T.fd_Words_one_of ["self", "choices"] (spOneOf T.C_Words T.C_BadText K) := by
  have G_Words_ahead : FnOk P w K mg base CX0 2 T.a_Words_ahead T.fd_Words_ahead ["self"] (spAhead T.C_Words) := ok_ahead T
  have G_Words_take : FnOk P w K mg base CX0 3 T.a_Words_take T.fd_Words_take ["self"] (spTake T.C_Words) := ok_take T
  have G_Words_refuse : FnOk P w K mg base (L2.CX P w) 4 T.a_Words_refuse T.fd_Words_refuse ["self"] (spRefuse T.C_Words T.C_BadText) := ok_refuse hP T
  refine T.F_Words_one_of.okX sc_Words_one_of (fun vs H Q E h => ?_) (fun cdv A outer s H vs Q E hr h => ?_)
  · obtain ⟨p, l, ws, i, v, cs, rfl, _⟩ := h
    rfl
  obtain ⟨p, l, ws, i, v, cs, rfl, W, am, ne, hh⟩ := h
  refine ⟨_, (pss_cons (ps_if (pt_cmpR (op_notU (hu_of hr)) (pe_meth0 (pv 0) T.cl_Words T.m_Words_ahead G_Words_ahead (hr.mono (by decide)) T.b_Words_ahead .nil pass0) (pv 1) rfl)
      (pss_one (ps_expr (pe_meth0 (pv 0) T.cl_Words T.m_Words_refuse G_Words_refuse (hr.mono (by decide)) T.b_Words_refuse .nil (passes_call (takes_of rfl rfl rfl rfl) (fun _ _ _ _ z => z)))))
      pss_nil)
    (pss_one (ps_ret (pe_meth0 (pv 0) T.cl_Words T.m_Words_take G_Words_take (hr.mono (by decide)) T.b_Words_take .nil pass0)))), ?_⟩
  have mt : ∀ m : Str, m ≠ "words" → m ≠ "at" → ∃ dx fs, H p = some (.ins T.C_Words dx fs) ∧ fs.lookup m = none := fun m h1 h2 => W.nomt h1 h2
  obtain ⟨dx, fs, e1, e2⟩ := mt "ahead" (by decide) (by decide)
  obtain ⟨dx3, fs3, e5, e6⟩ := mt "refuse" (by decide) (by decide)
  obtain ⟨dx4, fs4, e7, e8⟩ := mt "take" (by decide) (by decide)
  refine ⟨_, rfl, p, dx, fs, rfl, e1, e2, p, l, ws, i, rfl, W, _, rfl, am.notU ?_⟩
  refine ⟨_, rfl, ?_⟩
  unfold Tk1 at hh
  refine ite2 (fun c => ?_) (fun c => ?_)
  · have c' : decide (wd ws i ∈ cs) = false := by
      cases z : decide (wd ws i ∈ cs) with
      | false => rfl
      | true => rw [z] at c; cases c
    rw [c', if_neg Bool.false_ne_true] at hh
    exact ⟨_, rfl, p, dx3, fs3, rfl, e5, e6, p, l, ws, i, rfl, W, hh⟩
  · have c' : decide (wd ws i ∈ cs) = true := by
      cases z : decide (wd ws i ∈ cs) with
      | true => rfl
      | false => rw [z] at c; exact absurd rfl c
    rw [c', if_pos rfl] at hh
    have hi : i < ws.length := W.lt_of fun z => ne (by rw [← z]; exact of_decide_eq_true c')
    exact ⟨_, rfl, p, dx4, fs4, rfl, e7, e8, p, l, ws, i, rfl, W, hi, hh⟩
theorem ok_name (hP : PrF P file) (T : Txt K mg file) : FnOk P w K mg base (L2.CX P w) 5 T.a_Words_name T.fd_Words_name ["self", "taken"] (spName T.C_Words T.C_BadText K) := by
  have G_Words_ahead : FnOk P w K mg base CX0 2 T.a_Words_ahead T.fd_Words_ahead ["self"] (spAhead T.C_Words) := ok_ahead T
  have G_Words_take : FnOk P w K mg base CX0 3 T.a_Words_take T.fd_Words_take ["self"] (spTake T.C_Words) := ok_take T
  have G_Words_refuse : FnOk P w K mg base (L2.CX P w) 4 T.a_Words_refuse T.fd_Words_refuse ["self"] (spRefuse T.C_Words T.C_BadText) := ok_refuse hP T
  have G_is_name : FnOk P w K mg base CX0 1 T.a_is_name T.fd_is_name ["word"] spIsName := ok_is_name T
  refine T.F_Words_name.ok sc_Words_name (fun vs H Q E h => ?_) (fun cdv A outer s H vs Q E hr h => ?_)
  · obtain ⟨p, l, ws, i, a, cs, rfl, _⟩ := h
    rfl
  obtain ⟨p, l, ws, i, a, cs, rfl, W, am, hh⟩ := h
  refine ⟨_, (pss_cons (ps_if (PW.pt (pw_or (pt_not (pt_val (pe_call G_is_name (hr.mono (by decide)) rfl T.g_is_name T.k_is_name T.b_is_name .nil pass0 (pa_cons (pe_meth0 (pv 0) T.cl_Words T.m_Words_ahead G_Words_ahead (hr.mono (by decide)) T.b_Words_ahead .nil pass0) pa_nil)))) (pw_or1 (pt_cmpR op_in_seq (pe_meth0 (pv 0) T.cl_Words T.m_Words_ahead G_Words_ahead (hr.mono (by decide)) T.b_Words_ahead .nil pass0) (pv 1) rfl))))
      (pss_one (ps_expr (pe_meth0 (pv 0) T.cl_Words T.m_Words_refuse G_Words_refuse (hr.mono (by decide)) T.b_Words_refuse .nil (passes_call (takes_of rfl rfl rfl rfl) (fun _ _ _ _ z => z)))))
      pss_nil)
    (pss_one (ps_ret (pe_meth0 (pv 0) T.cl_Words T.m_Words_take G_Words_take (hr.mono (by decide)) T.b_Words_take .nil pass0)))), ?_⟩
  obtain ⟨dx, fs, e1, e2⟩ := W.nomt (m := "ahead")
  refine ⟨_, rfl, p, dx, fs, rfl, e1, e2, p, l, ws, i, rfl, W, _, rfl, wd_len W, fun H1 m1 => ⟨_, rfl, ?_⟩⟩
  have W1 := W.same m1
  have am1 : SqL K H1 a (cs.map V.str) ∨ SqT K H1 a (cs.map V.str) := am.imp (fun z => m1.seq z) fun z => sqT_mono m1 z
  obtain ⟨dx2, fs2, e3, e4⟩ := W1.nomt (m := "ahead")
  obtain ⟨dx3, fs3, e5, e6⟩ := W1.nomt (m := "refuse")
  obtain ⟨dx4, fs4, e7, e8⟩ := W1.nomt (m := "take")
  unfold Tk1 at hh
  refine ite2 (fun c => ?_) (fun c => ?_)
  · have c' : isName (wd ws i) = false := by
      cases z : isName (wd ws i) with
      | false => rfl
      | true => rw [z] at c; cases c
    rw [c', Bool.false_and, if_neg Bool.false_ne_true] at hh
    refine ite2 (fun _ => ?_) (fun z => absurd rfl z)
    exact ⟨_, rfl, p, dx3, fs3, rfl, e5, e6, p, l, ws, i, rfl, W1, hh.later (But.same m1)⟩
  have c' : isName (wd ws i) = true := by
    cases z : isName (wd ws i) with
    | true => rfl
    | false => rw [z] at c; exact absurd rfl c
  rw [c', Bool.true_and] at hh
  refine ⟨_, rfl, p, dx2, fs2, rfl, e3, e4, p, l, ws, i, rfl, W1, _, rfl, a, _, rfl, am1, rfl, flat_strs _, _, rfl, ?_⟩
  rw [if_neg Bool.false_ne_true, inV_strs]
  refine ite2 (fun c2 => ?_) (fun c2 => ?_)
  · rw [c2] at hh
    exact ⟨_, rfl, p, dx3, fs3, rfl, e5, e6, p, l, ws, i, rfl, W1, hh.later (But.same m1)⟩
  · have c2' : decide (wd ws i ∈ cs) = false := Bool.eq_false_iff.mpr c2
    rw [c2', if_pos (by rfl)] at hh
    have hi : i < ws.length := W.lt_of fun z => by rw [z] at c'; exact absurd c' (by decide +kernel)
    exact ⟨_, rfl, p, dx4, fs4, rfl, e7, e8, p, l, ws, i, rfl, W1, hi, fun H' b W' => hh H' ((But.same m1).trans b) W'⟩
theorem ok_number (hP : PrF P file) (T : Txt K mg file) : FnOk P w K mg base (L2.CX P w) 5 T.a_Words_number T.fd_Words_number ["self", "least", "greatest"] (spNumber T.C_Words T.C_BadText) := by
  have G_Words_ahead : FnOk P w K mg base CX0 2 T.a_Words_ahead T.fd_Words_ahead ["self"] (spAhead T.C_Words) := ok_ahead T
  have G_Words_take : FnOk P w K mg base CX0 3 T.a_Words_take T.fd_Words_take ["self"] (spTake T.C_Words) := ok_take T
  have G_Words_refuse : FnOk P w K mg base (L2.CX P w) 4 T.a_Words_refuse T.fd_Words_refuse ["self"] (spRefuse T.C_Words T.C_BadText) := ok_refuse hP T
  have G_is_number : FnOk P w K mg base CX0 1 T.a_is_number T.fd_is_number ["word"] spIsNum := ok_is_number T
  refine T.F_Words_number.okX sc_Words_number (fun vs H Q E h => ?_) (fun cdv A outer s H vs Q E hr h => ?_)
  · obtain ⟨p, l, ws, i, lo, hi, rfl, _⟩ := h
    rfl
  obtain ⟨p, l, ws, i, lo, hi, rfl, W, hh⟩ := h
  refine ⟨_, (pss_cons (ps_if (PW.pt (pw_or (pt_not (pt_val (pe_call G_is_number (hr.mono (by decide)) rfl T.g_is_number T.k_is_number T.b_is_number .nil pass0 (pa_cons (pe_meth0 (pv 0) T.cl_Words T.m_Words_ahead G_Words_ahead (hr.mono (by decide)) T.b_Words_ahead .nil pass0) pa_nil)))) (pw_or1 (pt_not (pt_chain op_le op_le (pv 1) (pe_callTy call_int_str (by rfl) T.z_int (by decide +kernel) (pa_cons (pe_meth0 (pv 0) T.cl_Words T.m_Words_ahead G_Words_ahead (hr.mono (by decide)) T.b_Words_ahead .nil pass0) pa_nil)) (pv 2))))))
      (pss_one (ps_expr (pe_meth0 (pv 0) T.cl_Words T.m_Words_refuse G_Words_refuse (hr.mono (by decide)) T.b_Words_refuse .nil (passes_call (takes_of rfl rfl rfl rfl) (fun _ _ _ _ z => z)))))
      pss_nil)
    (pss_one (ps_ret (pe_callTy call_int_str (by rfl) T.z_int (by decide +kernel) (pa_cons (pe_meth0 (pv 0) T.cl_Words T.m_Words_take G_Words_take (hr.mono (by decide)) T.b_Words_take .nil pass0) pa_nil))))), ?_⟩
  obtain ⟨dx, fs, e1, e2⟩ := W.nomt (m := "ahead")
  refine ⟨_, rfl, p, dx, fs, rfl, e1, e2, p, l, ws, i, rfl, W, _, rfl, wd_len W, fun H1 m1 => ⟨_, rfl, ?_⟩⟩
  have W1 := W.same m1
  obtain ⟨dx2, fs2, e3, e4⟩ := W1.nomt (m := "ahead")
  obtain ⟨dx3, fs3, e5, e6⟩ := W1.nomt (m := "refuse")
  obtain ⟨dx4, fs4, e7, e8⟩ := W1.nomt (m := "take")
  unfold Tk1 at hh
  have bad : (isNum (wd ws i) && decide (lo ≤ (numW (wd ws i) : Nat) ∧ ((numW (wd ws i) : Nat) : Int) ≤ hi)) = false → Ref p T.C_BadText H1 i E := fun z => by
    rw [z, if_neg Bool.false_ne_true] at hh
    exact hh.later (But.same m1)
  refine ite2 (fun c => ?_) (fun c => ?_)
  · have c' : isNum (wd ws i) = false := by
      cases z : isNum (wd ws i) with
      | false => rfl
      | true => rw [z] at c; cases c
    refine ite2 (fun _ => ?_) (fun z => absurd rfl z)
    exact ⟨_, rfl, p, dx3, fs3, rfl, e5, e6, p, l, ws, i, rfl, W1, bad (by rw [c']; rfl)⟩
  have c' : isNum (wd ws i) = true := by
    cases z : isNum (wd ws i) with
    | true => rfl
    | false => rw [z] at c; exact absurd rfl c
  obtain ⟨t1, t2⟩ := isNum_text c'
  refine ⟨_, rfl, _, rfl, p, dx2, fs2, rfl, e3, e4, p, l, ws, i, rfl, W1, _, _, rfl, t1, t2, ?_⟩
  refine ⟨_, _, rfl, rfl, _, rfl, ?_⟩
  have hin : i < ws.length := W.lt_of fun z => by rw [z] at c'; exact absurd c' (by decide +kernel)
  refine ite2 (fun c1 => ?_) (fun c1 => ?_)
  · have c1' := of_decide_eq_true c1
    refine ⟨_, rfl, _, _, rfl, rfl, _, rfl, ?_⟩
    refine ite2 (fun c2 => ?_) (fun c2 => ?_)
    · refine ⟨_, rfl, p, dx3, fs3, rfl, e5, e6, p, l, ws, i, rfl, W1, bad ?_⟩
      have : ¬ ((numW (wd ws i) : Nat) : Int) ≤ hi := fun z => by rw [decide_eq_true z] at c2; cases c2
      rw [decide_eq_false fun z : _ ∧ _ => this z.2, Bool.and_false]
    · have c2' : ((numW (wd ws i) : Nat) : Int) ≤ hi := by
        by_cases z : ((numW (wd ws i) : Nat) : Int) ≤ hi
        · exact z
        · rw [decide_eq_false z] at c2; exact absurd rfl c2
      rw [c', decide_eq_true ⟨c1', c2'⟩, if_pos (by rfl)] at hh
      exact ⟨_, rfl, p, dx4, fs4, rfl, e7, e8, p, l, ws, i, rfl, W1, hin, fun H' b W' => ⟨_, _, rfl, t1, t2, hh H' ((But.same m1).trans b) W'⟩⟩
  · refine ⟨_, rfl, ?_⟩
    refine ite2 (fun _ => ?_) (fun z => absurd rfl z)
    refine ⟨_, rfl, p, dx3, fs3, rfl, e5, e6, p, l, ws, i, rfl, W1, bad ?_⟩
    have : ¬ lo ≤ (numW (wd ws i) : Nat) := of_decide_eq_false (Bool.eq_false_iff.mpr c1)
    rw [decide_eq_false fun z : _ ∧ _ => this z.1, Bool.and_false]
theorem ok_finish (hP : PrF P file) (T : Txt K mg file) : FnOk P w K mg base (L2.CX P w) 5 T.a_Words_finish T.fd_Words_finish ["self"] (spFinish T.C_Words T.C_BadText) := by
  have G_Words_ended : FnOk P w K mg base CX0 1 T.a_Words_ended T.fd_Words_ended ["self"] (spEnded T.C_Words) := ok_ended T
  have G_Words_refuse : FnOk P w K mg base (L2.CX P w) 4 T.a_Words_refuse T.fd_Words_refuse ["self"] (spRefuse T.C_Words T.C_BadText) := ok_refuse hP T
  refine T.F_Words_finish.okX sc_Words_finish (fun vs H Q E h => ?_) (fun cdv A outer s H vs Q E hr h => ?_)
  · obtain ⟨p, l, ws, i, rfl, _⟩ := h
    rfl
  obtain ⟨p, l, ws, i, rfl, W, hh⟩ := h
  refine ⟨_, (pss_one (ps_if (pt_not (pt_val (pe_meth0 (pv 0) T.cl_Words T.m_Words_ended G_Words_ended (hr.mono (by decide)) T.b_Words_ended .nil pass0)))
      (pss_one (ps_expr (pe_meth0 (pv 0) T.cl_Words T.m_Words_refuse G_Words_refuse (hr.mono (by decide)) T.b_Words_refuse .nil (passes_call (takes_of rfl rfl rfl rfl) (fun _ _ _ _ z => z)))))
      pss_nil)), ?_⟩
  obtain ⟨dx, fs, e1, e2⟩ := W.nomt (m := "ended")
  obtain ⟨dx3, fs3, e5, e6⟩ := W.nomt (m := "refuse")
  refine ⟨_, rfl, p, dx, fs, rfl, e1, e2, p, l, ws, i, rfl, W, _, rfl, ?_⟩
  by_cases c : i = ws.length
  · rw [if_pos c] at hh
    rw [decide_eq_true c]
    exact hh
  · rw [if_neg c] at hh
    rw [decide_eq_false c]
    exact ⟨_, rfl, p, dx3, fs3, rfl, e5, e6, p, l, ws, i, rfl, W, hh⟩
theorem ok_Words (T : Txt K mg file) : FnOk P w K mg base CX0 2 T.a_Words_init T.fd_Words_init ["self", "text"] (spWords T.C_Words) := by
  refine T.F_Words_init.ok sc_Words_init (fun vs H Q E h => ?_) (fun cdv A outer s H vs Q E hr h => ?_)
  · obtain ⟨p, dx, x, rfl, _⟩ := h
    rfl
  obtain ⟨p, dx, x, rfl, hp, hx, hs, hw, q⟩ := h
  refine ⟨_, (pss_cons (ps_fld (pv 0) (pe_ifExp (pt_truth (pv 1) (by intro _; rfl)) (pe_split (pv 1) pe_str) (pe_lst pa_nil)) rfl)
    (pss_one (ps_fld (pv 0) pe_int rfl))), ?_⟩
  have fin : ∀ l, H l = none → Q .non (upd (upd (upd H l (.lst ((toWords x).map V.str))) p (.ins T.C_Words dx (putF "words" (.ref l) []))) p (.ins T.C_Words dx (putF "at" (.int 0) (putF "words" (.ref l) [])))) := by
    intro l hl
    have npl : p ≠ l := ne_of_none hp hl
    refine q l _ (fun b o e n => ?_) ⟨⟨dx, _, upd_same, ?_, ?_, fun m h1 h2 => ?_, (by show 2 < 900; decide)⟩, ?_, Nat.zero_le _, hs, hw⟩
    · rw [upd_ne n, upd_ne n, upd_ne (ne_of_none e hl)]
      exact e
    · rw [lookup_putF, if_neg (by decide +kernel), lookup_putF, if_pos rfl]
    · rw [lookup_putF, if_pos rfl]
      rfl
    · rw [lookup_putF, if_neg h2, lookup_putF, if_neg h1]
      rfl
    · rw [upd_ne (Ne.symm npl), upd_ne (Ne.symm npl), upd_same]
  refine ⟨_, rfl, _, ⟨Nat.le_trans hx (by decide), rfl⟩, ?_⟩
  refine ite2 (fun c => ?_) (fun c => ?_)
  · have c' : ¬ x.length = 0 := fun z => by rw [z] at c; cases c
    have e : toWords x = Txt.split x " " := if_neg c'
    rw [e] at fin
    refine ⟨_, rfl, ⟨_, rfl⟩, x, _, rfl, rfl, rfl, ?_, fun l hl => ?_⟩
    · exact Nat.le_trans (Nat.add_le_add_right hx 2) (by decide)
    · exact ⟨_, rfl, p, T.C_Words, dx, [], rfl, by rw [upd_ne (ne_of_none hp hl)]; exact hp, T.cl_Words, T.na_Words_words, (by show 0 < 1000; decide), _, rfl, p, T.C_Words, dx, _, rfl, upd_same, T.cl_Words, T.na_Words_at, (by show 1 < 1000; decide), fin l hl⟩
  · have c' : x.length = 0 := by
      by_cases z : x.length = 0
      · exact z
      · exact absurd (by simpa using z) c
    have e : toWords x = [] := if_pos c'
    rw [e] at fin
    refine ⟨(by show 0 ≤ sizeLine; decide), fun l hl => ?_⟩
    exact ⟨_, rfl, p, T.C_Words, dx, [], rfl, by rw [upd_ne (ne_of_none hp hl)]; exact hp, T.cl_Words, T.na_Words_words, (by show 0 < 1000; decide), _, rfl, p, T.C_Words, dx, _, rfl, upd_same, T.cl_Words, T.na_Words_at, (by show 1 < 1000; decide), fin l hl⟩

theorem ok_expr_step (hP : PrF P file) (T : Txt K mg file) (k : Nat) (sp0 : Sp) (G : FnOk P w K mg base (L2.CX P w) (k + 5) T.a_read_expression T.fd_read_expression ["words", "meanings", "tables", "depth"] sp0) (hsp : ∀ j, k = j + 1 → ∀ vs H Q E, spExpr T.C_Words T.C_BadText K j vs H Q E → sp0 vs H Q E) :
    FnOk P w K mg base (L2.CX P w) (k + 6) T.a_read_expression T.fd_read_expression ["words", "meanings", "tables", "depth"] (spExpr T.C_Words T.C_BadText K k) := by
  have G_read_expression : FnOk P w K mg base (L2.CX P w) (k + 5) T.a_read_expression T.fd_read_expression ["words", "meanings", "tables", "depth"] sp0 := G
  have G_Words_ahead : FnOk P w K mg base CX0 2 T.a_Words_ahead T.fd_Words_ahead ["self"] (spAhead T.C_Words) := ok_ahead T
  have G_Words_take : FnOk P w K mg base CX0 3 T.a_Words_take T.fd_Words_take ["self"] (spTake T.C_Words) := ok_take T
  have G_Words_one_of : FnOk P w K mg base (L2.CX P w) 5 T.a_Words_one_of T.fd_Words_one_of ["self", "choices"] (spOneOf T.C_Words T.C_BadText K) := ok_one_of hP T
  have G_Words_number : FnOk P w K mg base (L2.CX P w) 5 T.a_Words_number T.fd_Words_number ["self", "least", "greatest"] (spNumber T.C_Words T.C_BadText) := ok_number hP T
  have G_is_number : FnOk P w K mg base CX0 1 T.a_is_number T.fd_is_number ["word"] spIsNum := ok_is_number T
  refine T.F_read_expression.ok sc_read_expression (fun vs H Q E h => ?_) (fun cdv A outer s H vs Q E hr h => ?_)
  · obtain ⟨p, l, m, tb, ws, i, sc, rfl, _⟩ := h
    rfl
  obtain ⟨p, l, m, tb, ws, i, sc, rfl, W, M, ht, ne, hh⟩ := h
  refine ⟨_, (pss_cons (ps_set (i := 4) sc_read_expression.nd rfl (Or.inl rfl) (pe_meth0 (pv 0) T.cl_Words T.m_Words_ahead G_Words_ahead (hr.mono (by omega)) T.b_Words_ahead .nil pass0))
    (pss_cons (ps_if (PW.pt (pw_and (pt_cmpR op_lt (pv 3) (pe_glob (v := .int 8) rfl T.g_DEEPEST_EXPRESSION.choose_spec ⟨_, rfl⟩) (nomark _)) (pw_and1 (pt_cmpR op_in_seq (pv 4) (pe_glob (v := .ref T.a_OPERATORS) rfl T.g_OPERATORS rfl) rfl))))
      (pss_cons (ps_expr (pe_meth0 (pv 0) T.cl_Words T.m_Words_take G_Words_take (hr.mono (by omega)) T.b_Words_take .nil pass0))
    (pss_cons (ps_set (i := 5) sc_read_expression.nd rfl (Or.inl rfl) (pe_call G_read_expression (hr.mono (by omega)) rfl T.g_read_expression T.k_read_expression T.b_read_expression .nil (passes_call (takes_of rfl rfl rfl rfl) (fun _ _ _ _ z => z)) (pa_cons (pv 0) (pa_cons (pv 1) (pa_cons (pv 2) (pa_cons (pe_op op_add (pv 3) pe_int) pa_nil))))))
    (pss_one (ps_ret (pe_tup (pa_cons (pv 4) (pa_cons (pv 5) (pa_cons (pe_call G_read_expression (hr.mono (by omega)) rfl T.g_read_expression T.k_read_expression T.b_read_expression .nil (passes_call (takes_of rfl rfl rfl rfl) (fun _ _ _ _ z => z)) (pa_cons (pv 0) (pa_cons (pv 1) (pa_cons (pv 2) (pa_cons (pe_op op_add (pv 3) pe_int) pa_nil))))) pa_nil))))))))
      pss_nil)
    (pss_cons (ps_if (PW.pt (pw_and (pt_cmpR op_lt (pv 3) (pe_glob (v := .int 8) rfl T.g_DEEPEST_EXPRESSION.choose_spec ⟨_, rfl⟩) (nomark _)) (pw_and (pt_cmpR op_in_seq (pv 4) (pe_glob (v := .ref T.a_LOOKS) rfl T.g_LOOKS rfl) rfl) (pw_and1 (pt_truth (pv 2) (by intro _; rfl))))))
      (pss_cons (ps_expr (pe_meth0 (pv 0) T.cl_Words T.m_Words_take G_Words_take (hr.mono (by omega)) T.b_Words_take .nil pass0))
    (pss_cons (ps_set (i := 6) sc_read_expression.nd rfl (Or.inl rfl) (pe_meth (pv 0) T.cl_Words T.m_Words_one_of G_Words_one_of (hr.mono (by omega)) T.b_Words_one_of .nil (passes_call (takes_of rfl rfl rfl rfl) (fun _ _ _ _ z => z)) (pa_cons (pv 2) pa_nil)))
    (pss_one (ps_ret (pe_tup (pa_cons (pv 4) (pa_cons (pv 6) (pa_cons (pe_call G_read_expression (hr.mono (by omega)) rfl T.g_read_expression T.k_read_expression T.b_read_expression .nil (passes_call (takes_of rfl rfl rfl rfl) (fun _ _ _ _ z => z)) (pa_cons (pv 0) (pa_cons (pv 1) (pa_cons (pv 2) (pa_cons (pe_op op_add (pv 3) pe_int) pa_nil))))) pa_nil))))))))
      pss_nil)
    (pss_cons (ps_if (pt_val (pe_call G_is_number (hr.mono (by omega)) rfl T.g_is_number T.k_is_number T.b_is_number .nil pass0 (pa_cons (pv 4) pa_nil)))
      (pss_one (ps_ret (pe_tup (pa_cons pe_str (pa_cons (pe_meth (pv 0) T.cl_Words T.m_Words_number G_Words_number (hr.mono (by omega)) T.b_Words_number .nil (passes_call (takes_of rfl rfl rfl rfl) (fun _ _ _ _ z => z)) (pa_cons pe_int (pa_cons (pe_glob (v := .int 65535) rfl T.g_GREATEST_NUMBER.choose_spec ⟨_, rfl⟩) pa_nil))) pa_nil)))))
      pss_nil)
    (pss_one (ps_ret (pe_dget (hu_of hr) (pv 1) (pe_meth (pv 0) T.cl_Words T.m_Words_one_of G_Words_one_of (hr.mono (by omega)) T.b_Words_one_of .nil (passes_call (takes_of rfl rfl rfl rfl) (fun _ _ _ _ z => z)) (pa_cons (pv 1) pa_nil)) (fun _ _ => rfl)))))))), ?_⟩
  obtain ⟨dx, fs, e1, e2⟩ := W.nomt (m := "ahead")
  refine ⟨_, rfl, p, dx, fs, rfl, e1, e2, p, l, ws, i, rfl, W, ?_⟩
  dsimp only [gName]
  refine tail_split (pExpr ws sc k i = pAtom ws sc i) (fun atom => ?_) (fun ea => ?_)
  · cases k with
    | zero =>
      have at_ := atom rfl
      refine ⟨_, rfl, _, _, rfl, rfl, _, rfl, ite2 (fun c => absurd (of_decide_eq_true c) (by omega)) (fun _ => iteF ?_)⟩
      exact ⟨_, rfl, _, _, rfl, rfl, _, rfl, ite2 (fun c => absurd (of_decide_eq_true c) (by omega)) (fun _ => iteF at_)⟩
    | succ j =>
      have hsp' := hsp j rfl
      have ed : (8 - ((j + 1 : Nat) : Int) + 1) = 8 - (j : Int) := by omega
      have dlt : decide ((8 - ((j + 1 : Nat) : Int)) < 8) = true := decide_eq_true (by omega)
      refine ⟨_, rfl, _, _, rfl, rfl, _, rfl, ite2 (fun _ => ?_) (fun c => absurd dlt c)⟩
      refine ⟨_, rfl, _, _, rfl, .inr (T.q_OPERATORS H), rfl, flat_strs _, _, rfl, ?_⟩
      rw [if_neg Bool.false_ne_true, inV_strs]
      refine ite2 (fun c1 => ?_) (fun c1 => ?_)
      · have c1' : wd ws i ∈ ops := of_decide_eq_true c1
        simp only [pExpr, if_pos c1'] at hh
        have hi : i < ws.length := W.lt_of fun z => by rw [z] at c1'; exact absurd c1' (by decide +kernel)
        obtain ⟨dx2, fs2, e3, e4⟩ := W.nomt (m := "take")
        refine ⟨_, rfl, p, dx2, fs2, rfl, e3, e4, p, l, ws, i, rfl, W, hi, fun H1 b1 W1 => ?_⟩
        refine ⟨_, rfl, _, rfl, _, rfl, _, rfl, _, _, rfl, rfl, ?_⟩
        refine hsp' _ _ _ _ ⟨p, l, m, tb, ws, i + 1, sc, congrArg (fun z : Int => [V.ref p, V.ref m, V.ref tb, V.int z]) ed, W1, W.mean b1 M, W.sqL b1 ht, ne, ?_⟩
        cases x1 : pExpr ws sc j (i + 1) with
        | error y =>
          rw [x1] at hh
          exact Ref.later hh b1
        | ok r1 =>
          obtain ⟨a, j1⟩ := r1
          rw [x1] at hh
          dsimp only at hh
          intro v1 H2 b2 W2 d1
          refine ⟨_, rfl, _, rfl, _, rfl, _, rfl, _, rfl, _, rfl, _, _, rfl, rfl, ?_⟩
          have b12 := b1.trans b2
          refine hsp' _ _ _ _ ⟨p, l, m, tb, ws, j1, sc, congrArg (fun z : Int => [V.ref p, V.ref m, V.ref tb, V.int z]) ed, W2, W.mean b12 M, W.sqL b12 ht, ne, ?_⟩
          cases x2 : pExpr ws sc j j1 with
          | error y =>
            rw [x2] at hh
            exact Ref.later hh b12
          | ok r2 =>
            obtain ⟨b, j2⟩ := r2
            rw [x2] at hh
            dsimp only at hh
            intro v2 H3 b3 W3 d2
            refine ⟨by show 3 ≤ sizeLine; decide, fun q hq => ?_⟩
            refine hh _ _ ((b12.trans b3).trans (But.same (Gm.same_new hq _))) (W3.same (Gm.same_new hq _)) ?_
            unfold Ex.d
            exact dp_tup hq (.cons (.str _) (.cons (W2.dp b3 _ d1) (.cons d2 .nil)))
      have c1' : ¬ wd ws i ∈ ops := of_decide_eq_false (Bool.eq_false_iff.mpr c1)
      refine ⟨_, rfl, _, _, rfl, rfl, _, rfl, ite2 (fun _ => ?_) (fun c => absurd dlt c)⟩
      refine ⟨_, rfl, _, _, rfl, .inr (T.q_LOOKS H), rfl, flat_strs _, _, rfl, ?_⟩
      rw [if_neg Bool.false_ne_true, inV_strs]
      refine ite2 (fun c2 => ?_) (fun c2 => ?_)
      rotate_left
      · have c2' : ¬ wd ws i ∈ looks := of_decide_eq_false (Bool.eq_false_iff.mpr c2)
        refine iteF (atom ?_)
        simp only [pExpr, if_neg c1']
        rw [if_neg (show ¬ (wd ws i ∈ looks ∧ sc.tabs ≠ []) from fun z => c2' z.1)]
      have c2' : wd ws i ∈ looks := of_decide_eq_true c2
      refine ⟨_, rfl, _, .inl ⟨_, ht, rfl⟩, ?_⟩
      refine ite2 (fun c3 => ?_) (fun c3 => ?_)
      rotate_left
      · have c3' : sc.tabs = [] := by
          cases z : sc.tabs with
          | nil => rfl
          | cons y ys => rw [z] at c3; exact absurd rfl c3
        refine atom ?_
        simp only [pExpr, if_neg c1']
        rw [if_neg (show ¬ (wd ws i ∈ looks ∧ sc.tabs ≠ []) from fun z => z.2 c3')]
      have c3' : sc.tabs ≠ [] := fun z => by rw [z] at c3; cases c3
      simp only [pExpr, if_neg c1'] at hh
      rw [if_pos ⟨c2', c3'⟩] at hh
      have hi : i < ws.length := W.lt_of fun z => by rw [z] at c2'; exact absurd c2' (by decide +kernel)
      obtain ⟨dx2, fs2, e3, e4⟩ := W.nomt (m := "take")
      refine ⟨_, rfl, p, dx2, fs2, rfl, e3, e4, p, l, ws, i, rfl, W, hi, fun H1 b1 W1 => ?_⟩
      obtain ⟨dx3, fs3, e5, e6⟩ := W1.nomt (m := "one_of")
      refine ⟨_, rfl, p, dx3, fs3, rfl, e5, e6, _, rfl, p, l, ws, i + 1, _, sc.tabs, rfl, W1, ⟨tb, rfl, .inl (W.sqL b1 ht)⟩, ne.t, ?_⟩
      unfold Tk1
      refine ite2 (fun c4 => ?_) (fun c4 => ?_)
      rotate_left
      · rw [if_neg (of_decide_eq_false (Bool.eq_false_iff.mpr c4))] at hh
        exact Ref.later hh b1
      rw [if_pos (of_decide_eq_true c4)] at hh
      intro H2 b2 W2
      have b12 := b1.trans b2
      refine ⟨_, rfl, _, rfl, _, rfl, _, rfl, _, rfl, _, rfl, _, _, rfl, rfl, ?_⟩
      refine hsp' _ _ _ _ ⟨p, l, m, tb, ws, i + 2, sc, congrArg (fun z : Int => [V.ref p, V.ref m, V.ref tb, V.int z]) ed, W2, W.mean b12 M, W.sqL b12 ht, ne, ?_⟩
      cases x1 : pExpr ws sc j (i + 2) with
      | error y =>
        rw [x1] at hh
        exact Ref.later hh b12
      | ok r1 =>
        obtain ⟨a, j1⟩ := r1
        rw [x1] at hh
        dsimp only at hh
        intro v1 H3 b3 W3 d1
        refine ⟨by show 3 ≤ sizeLine; decide, fun q hq => ?_⟩
        refine hh _ _ ((b12.trans b3).trans (But.same (Gm.same_new hq _))) (W3.same (Gm.same_new hq _)) ?_
        exact dp_look hq c2' d1
  · rw [ea] at hh
    refine ⟨_, rfl, _, rfl, wd_len W, fun H1 m1 => ⟨_, rfl, ?_⟩⟩
    have W1 := W.same m1
    unfold pAtom at hh
    refine ite2 (fun c => ?_) (fun c => ?_)
    · rw [if_pos c] at hh
      obtain ⟨dx2, fs2, e3, e4⟩ := W1.nomt (m := "number")
      refine ⟨_, rfl, p, dx2, fs2, rfl, e3, e4, p, l, ws, i, 0, 65535, rfl, W1, ?_⟩
      have cn : (isNum (wd ws i) && decide ((0 : Int) ≤ (numW (wd ws i) : Nat) ∧ ((numW (wd ws i) : Nat) : Int) ≤ 65535)) = true := by
        have := isNum_le c
        rw [c, decide_eq_true ⟨by omega, by omega⟩]
        rfl
      unfold Tk1
      rw [if_pos cn]
      intro H2 b2 W2
      refine ⟨by show 2 ≤ sizeLine; decide, fun q hq => ?_⟩
      refine hh _ _ (((But.same m1).trans b2).trans (But.same (Gm.same_new hq _))) (W2.same (Gm.same_new hq _)) ?_
      unfold Ex.d
      exact dp_tup hq (.cons (.str _) (.cons (.int _) .nil))
    · rw [if_neg c] at hh
      obtain ⟨dx2, fs2, e3, e4⟩ := W1.nomt (m := "one_of")
      have M1 := W.mean (But.same m1) M
      have nin : Str.empty ∉ sc.vars ++ sc.locs := fun z => (List.mem_append.mp z).elim ne.v ne.l
      refine ⟨_, rfl, _, rfl, p, dx2, fs2, rfl, e3, e4, _, rfl, p, l, ws, i, _, _, rfl, W1, M1.amg, nin, ?_⟩
      unfold Tk1
      by_cases h1 : wd ws i ∈ sc.vars
      · rw [if_pos h1] at hh
        rw [decide_eq_true (List.mem_append_left _ h1), if_pos rfl]
        intro H2 b2 W2
        obtain ⟨kvs, ek, f⟩ := W1.mean b2 M1
        obtain ⟨v, ev, dv⟩ := (f _).1 h1
        exact ⟨m, v, rfl, .inl ⟨kvs, .inr _, .inl ek, rfl, ev.symm⟩, hh _ _ ((But.same m1).trans b2) W2 dv⟩
      · rw [if_neg h1] at hh
        by_cases h2 : wd ws i ∈ sc.locs
        · rw [if_pos h2] at hh
          rw [decide_eq_true (List.mem_append_right _ h2), if_pos rfl]
          intro H2 b2 W2
          obtain ⟨kvs, ek, f⟩ := W1.mean b2 M1
          obtain ⟨v, ev, dv⟩ := (f _).2.1 h1 h2
          exact ⟨m, v, rfl, .inl ⟨kvs, .inr _, .inl ek, rfl, ev.symm⟩, hh _ _ ((But.same m1).trans b2) W2 dv⟩
        · rw [if_neg h2] at hh
          rw [decide_eq_false fun z => (List.mem_append.mp z).elim h1 h2, if_neg Bool.false_ne_true]
          exact Ref.later hh (But.same m1)
theorem ok_expr (hP : PrF P file) (T : Txt K mg file) : ∀ k : Nat, FnOk P w K mg base (L2.CX P w) (k + 6) T.a_read_expression T.fd_read_expression ["words", "meanings", "tables", "depth"] (spExpr T.C_Words T.C_BadText K k)
  | 0 => ok_expr_step hP T 0 (fun _ _ _ _ => False) ⟨fun _ _ _ _ h => h.elim, fun _ _ _ _ _ _ _ _ _ _ _ _ _ h => h.elim⟩ (fun j h => absurd h (by omega))
  | k + 1 => ok_expr_step hP T (k + 1) _ (ok_expr hP T k) (fun j h vs H Q E q => by
      obtain rfl : k = j := by omega
      exact q)
end
end Toy
set_option Elab.async false
set_option linter.all false
set_option maxRecDepth 100000
set_option maxHeartbeats 4000000
namespace Toy
open PySem L2 Mine NdefX Gm Pz
section
variable {P : Program} {w : World} {K : PySem.W.Frag} {mg : Str → Option Value} {base : Heap} {file : Str}
theorem valV_none {kvs : List (Key × V)} {k : Key} : (valV kvs k).isSome = true → ∃ v, valV kvs k = some v := fun h => Option.isSome_iff_exists.mp h
theorem ok_can_follow (T : Txt K mg file) : FnOk P w K mg base CX0 1 T.a_StatementReader_can_follow T.fd_StatementReader_can_follow ["self", "kind"] (spCanFollow T.C_StatementReader K) := by
  refine T.F_StatementReader_can_follow.ok sc_StatementReader_can_follow (fun vs H Q E h => ?_) (fun cdv A outer s H vs Q E hr h => ?_)
  · obtain ⟨r, dx, nd, fs, sc, k, rfl, _⟩ := h
    rfl
  obtain ⟨r, dx, nd, fs, sc, k, rfl, e1, e2, N, q⟩ := h
  refine ⟨_, (pss_one (ps_ret (pe_or (pe_cmp (pc_dnotin (hu_of hr) (pv 1) (pe_fld (pv 0) rfl))) (pe_one (pe_cmpR op_gt (pe_callB call_len_seq (by rfl) T.z_len (by decide +kernel) (pa_cons (pe_dget (hu_of hr) (pe_fld (pv 0) rfl) (pv 1) (fun _ _ => rfl)) pa_nil)) pe_int (nomark _)))))), ?_⟩
  cases ek : kindNames sc k with
  | none =>
    obtain ⟨kvs, e3, e4⟩ := N.no ek
    have eq : canFollow sc k = true := by unfold canFollow; rw [ek]
    rw [eq] at q
    refine ⟨_, rfl, _, rfl, r, _, _, _, _, rfl, e1, T.cl_StatementReader, T.na_StatementReader_names, e2, nd, _, rfl, DGet.k (k := .inr k) e3, ?_⟩
    rw [e4]
    exact ⟨_, rfl, q⟩
  | some xs =>
    obtain ⟨kvs, a, e3, e4, e5⟩ := N.get ek
    have eq : canFollow sc k = decide (0 < xs.length) := by unfold canFollow; rw [ek]
    rw [eq] at q
    refine ⟨_, rfl, _, rfl, r, _, _, _, _, rfl, e1, T.cl_StatementReader, T.na_StatementReader_names, e2, nd, _, rfl, DGet.k (k := .inr k) e3, ?_⟩
    rw [e4]
    refine ⟨_, rfl, _, rfl, r, _, _, _, _, rfl, e1, T.cl_StatementReader, T.na_StatementReader_names, e2, _, rfl, nd, _, rfl, .inl ⟨kvs, .inr k, .inl e3, rfl, e4.symm⟩, a, _, rfl, e5.imp id And.right, ?_⟩
    refine ⟨_, _, rfl, rfl, ?_⟩
    rw [List.length_map]
    have : decide ((0 : Int) < ((xs.length : Nat) : Int)) = decide (0 < xs.length) := decide_eq_decide.mpr ⟨fun h => by omega, fun h => by omega⟩
    show Q (.bl (decide ((0 : Int) < ((xs.length : Nat) : Int)))) H
    rw [this]
    exact q
theorem ok_can_start (T : Txt K mg file) : FnOk P w K mg base CX0 1 T.a_StatementReader_can_start T.fd_StatementReader_can_start ["self", "word", "depth"] (spCanStart T.C_StatementReader K) := by
  refine T.F_StatementReader_can_start.ok sc_StatementReader_can_start (fun vs H Q E h => ?_) (fun cdv A outer s H vs Q E hr h => ?_)
  · obtain ⟨r, p, sc, w, k, rfl, _⟩ := h
    rfl
  obtain ⟨r, p, sc, w, k, rfl, R, q⟩ := h
  refine ⟨_, (pss_cons (ps_if (pt_cmpR op_in_seq (pv 1) (pe_tup (pa_cons pe_str (pa_cons pe_str pa_nil))) rfl)
      (pss_one (ps_ret (pe_cmpR op_lt (pv 2) (pe_glob (v := .int 6) rfl T.g_DEEPEST_STATEMENT.choose_spec ⟨_, rfl⟩) (nomark _))))
      pss_nil)
    (pss_one (ps_ret (pe_cmpR op_in_seq (pv 1) (pe_fld (pv 0) rfl) rfl)))), ?_⟩
  refine ⟨_, rfl, by show 2 ≤ sizeLine; decide, fun t ht => ?_⟩
  have m1 := Gm.same_new ht (.tup [V.str "if", V.str "after"])
  refine ⟨t, _, rfl, .inr (SqT.of upd_same), rfl, rfl, _, rfl, ?_⟩
  have hi : inV (.str w) [V.str "if", V.str "after"] = decide (w ∈ ([("if" : Str), "after"] : List Str)) := inV_strs w [("if" : Str), "after"]
  rw [if_neg Bool.false_ne_true, hi]
  have ec : (w ∈ ([("if" : Str), "after"] : List Str)) ↔ (w = "if" ∨ w = "after") := by simp
  have qq := q _ m1
  unfold can at qq
  refine ite2 (fun c => ?_) (fun c => ?_)
  · rw [if_pos (ec.mp (of_decide_eq_true c))] at qq
    refine ⟨_, rfl, _, _, rfl, rfl, ?_⟩
    have : decide ((6 - (k : Int)) < 6) = decide (0 < k) := decide_eq_decide.mpr ⟨fun h => by omega, fun h => by omega⟩
    show Q (.bl (decide ((6 - (k : Int)) < 6))) _
    rw [this]
    exact qq
  · rw [if_neg (fun z => c (decide_eq_true (ec.mpr z)))] at qq
    obtain ⟨dx, fs, nd, m, st, f1, f2, f3, f4, f5, f6, f7, f8, f9⟩ := R.ob
    refine ⟨_, rfl, _, rfl, r, _, _, _, _, rfl, m1 _ _ f1, T.cl_StatementReader, T.na_StatementReader_starts, f5, st, _, rfl, .inl (m1.seq f9), rfl, flat_strs _, ?_⟩
    rw [if_neg Bool.false_ne_true, inV_strs]
    exact qq
theorem ok_expression (hP : PrF P file) (T : Txt K mg file) : FnOk P w K mg base (L2.CX P w) 14 T.a_StatementReader_expression T.fd_StatementReader_expression ["self"] (spExprM T.C_StatementReader T.C_Words T.C_BadText K) := by
  have G_read_expression : FnOk P w K mg base (L2.CX P w) 13 T.a_read_expression T.fd_read_expression ["words", "meanings", "tables", "depth"] (spExpr T.C_Words T.C_BadText K 7) := ok_expr hP T 7
  refine T.F_StatementReader_expression.okX sc_StatementReader_expression (fun vs H Q E h => ?_) (fun cdv A outer s H vs Q E hr h => ?_)
  · obtain ⟨r, p, l, ws, i, sc, rfl, _⟩ := h
    rfl
  obtain ⟨r, p, l, ws, i, sc, rfl, k, q⟩ := h
  refine ⟨_, (pss_one (ps_ret (pe_call G_read_expression (hr.mono (by decide)) rfl T.g_read_expression T.k_read_expression T.db0_read_expression T.dv0_read_expression (passes_call (takes_of rfl rfl rfl rfl) (fun _ _ _ _ z => z)) (pa_cons (pe_fld (pv 0) rfl) (pa_cons (pe_fld (pv 0) rfl) (pa_cons (pe_dget (hu_of hr) (pe_fld (pv 0) rfl) pe_str (fun _ _ => rfl)) pa_nil)))))), ?_⟩
  obtain ⟨dx, fs, nd, m, st, f1, f2, f3, f4, f5, f6, f7, f8, f9⟩ := k.R.ob
  obtain ⟨kvs, a, e3, e4, e5⟩ := f7.get (k := "table") (xs := sc.tabs) rfl
  have e6 : SqL K H a (sc.tabs.map V.str) := e5.elim id fun z => absurd z.1 (by decide)
  refine ⟨_, rfl, r, _, _, _, _, rfl, f1, T.cl_StatementReader, T.na_StatementReader_words, f2, ?_⟩
  refine ⟨_, rfl, r, _, _, _, _, rfl, f1, T.cl_StatementReader, T.na_StatementReader_meanings, f4, ?_⟩
  refine ⟨_, rfl, r, _, _, _, _, rfl, f1, T.cl_StatementReader, T.na_StatementReader_names, f3, nd, _, rfl, .inl ⟨kvs, .inr _, .inl e3, rfl, e4.symm⟩, ?_⟩
  refine ⟨p, l, m, a, ws, i, sc, rfl, k.W, f8, e6, k.N.e, ?_⟩
  cases x : pExpr ws sc 7 i with
  | error j => rw [x] at q; exact q
  | ok r => rw [x] at q; exact q
theorem ok_part (hP : PrF P file) (T : Txt K mg file) : FnOk P w K mg base (L2.CX P w) 15 T.a_StatementReader_part T.fd_StatementReader_part ["self", "kind"] (spPart T.C_StatementReader T.C_Words T.C_BadText K) := by
  have G_StatementReader_expression : FnOk P w K mg base (L2.CX P w) 14 T.a_StatementReader_expression T.fd_StatementReader_expression ["self"] (spExprM T.C_StatementReader T.C_Words T.C_BadText K) := ok_expression hP T
  have G_Words_one_of : FnOk P w K mg base (L2.CX P w) 5 T.a_Words_one_of T.fd_Words_one_of ["self", "choices"] (spOneOf T.C_Words T.C_BadText K) := ok_one_of hP T
  have G_Words_number : FnOk P w K mg base (L2.CX P w) 5 T.a_Words_number T.fd_Words_number ["self", "least", "greatest"] (spNumber T.C_Words T.C_BadText) := ok_number hP T
  refine T.F_StatementReader_part.okX sc_StatementReader_part (fun vs H Q E h => ?_) (fun cdv A outer s H vs Q E hr h => ?_)
  · obtain ⟨r, p, l, ws, i, sc, kd, rfl, _⟩ := h
    rfl
  obtain ⟨r, p, l, ws, i, sc, kd, rfl, k, hk, q⟩ := h
  refine ⟨_, (pss_cons (ps_if (pt_cmpR op_eq (pv 1) pe_str (nomark _))
      (pss_one (ps_ret (pe_meth0 (pv 0) T.cl_StatementReader T.m_StatementReader_expression G_StatementReader_expression (hr.mono (by decide)) T.b_StatementReader_expression .nil (passes_call (takes_of rfl rfl rfl rfl) (fun _ _ _ _ z => z)))))
      pss_nil)
    (pss_cons (ps_if (pt_cmpR op_eq (pv 1) pe_str (nomark _))
      (pss_one (ps_ret (pe_meth (pe_fld (pv 0) rfl) T.cl_Words T.m_Words_number G_Words_number (hr.mono (by decide)) T.b_Words_number .nil (passes_call (takes_of rfl rfl rfl rfl) (fun _ _ _ _ z => z)) (pa_cons pe_int (pa_cons (pe_glob (v := .int 64) rfl T.g_MOST_DRAWN.choose_spec ⟨_, rfl⟩) pa_nil)))))
      pss_nil)
    (pss_one (ps_ret (pe_meth (pe_fld (pv 0) rfl) T.cl_Words T.m_Words_one_of G_Words_one_of (hr.mono (by decide)) T.b_Words_one_of .nil (passes_call (takes_of rfl rfl rfl rfl) (fun _ _ _ _ z => z)) (pa_cons (pe_dget (hu_of hr) (pe_fld (pv 0) rfl) (pv 1) (fun _ _ => rfl)) pa_nil)))))), ?_⟩
  unfold pPart at q
  obtain ⟨dx, fs, nd, m, st, f1, f2, f3, f4, f5, f6, f7, f8, f9⟩ := k.R.ob
  have ds : ∀ (x y : Str), decide (V.str x = V.str y) = decide (x = y) := fun x y => decide_eq_decide.mpr ⟨V.str.inj, congrArg V.str⟩
  refine ⟨_, rfl, rfl, _, rfl, ?_⟩
  rw [ds]
  refine ite2 (fun c => ?_) (fun c => ?_)
  · rw [if_pos (of_decide_eq_true c)] at q
    obtain ⟨dx2, fs2, g1, g2⟩ := k.R.nomt (m := "expression")
    refine ⟨_, rfl, r, dx2, fs2, rfl, g1, g2, r, p, l, ws, i, sc, rfl, k, ?_⟩
    cases x : pExpr ws sc 7 i with
    | error j => rw [x] at q; exact q
    | ok y => rw [x] at q; exact q
  have c' : ¬ kd = "expression" := fun z => c (decide_eq_true z)
  rw [if_neg c'] at q
  refine ⟨_, rfl, rfl, _, rfl, ?_⟩
  rw [ds]
  refine ite2 (fun c2 => ?_) (fun c2 => ?_)
  · rw [if_pos (of_decide_eq_true c2)] at q
    obtain ⟨dx2, fs2, g1, g2⟩ := k.W.nomt (m := "number")
    refine ⟨_, rfl, r, _, _, _, _, rfl, f1, T.cl_StatementReader, T.na_StatementReader_words, f2, p, dx2, fs2, rfl, g1, g2, p, l, ws, i, 1, 64, rfl, k.W, ?_⟩
    unfold Tk1
    split
    · rename_i h1
      rw [if_pos h1] at q
      exact fun H' b W' => q _ H' b W' (.int _)
    · rename_i h1
      rw [if_neg h1] at q
      exact q
  have c2' : ¬ kd = "number" := fun z => c2 (decide_eq_true z)
  rw [if_neg c2'] at q
  obtain ⟨xs, ex⟩ := kind_some (s := sc) hk c' c2'
  obtain ⟨kvs, a, e3, e4, e5⟩ := f7.get ex
  rw [ex] at q
  obtain ⟨dx2, fs2, g1, g2⟩ := k.W.nomt (m := "one_of")
  refine ⟨_, rfl, r, _, _, _, _, rfl, f1, T.cl_StatementReader, T.na_StatementReader_words, f2, p, dx2, fs2, rfl, g1, g2, ?_⟩
  refine ⟨_, rfl, r, _, _, _, _, rfl, f1, T.cl_StatementReader, T.na_StatementReader_names, f3, _, rfl, nd, _, rfl, .inl ⟨kvs, .inr _, .inl e3, rfl, e4.symm⟩, ?_⟩
  refine ⟨p, l, ws, i, _, xs, rfl, k.W, ⟨a, rfl, e5.elim .inl fun z => .inr (.inl z.2)⟩, k.N.kind ex, ?_⟩
  unfold Tk1
  dsimp only at q
  split
  · rename_i h1
    rw [if_pos h1] at q
    exact fun H' b W' => q _ H' b W' (.str _)
  · rename_i h1
    rw [if_neg h1] at q
    exact q
end
end Toy
set_option Elab.async false
set_option linter.all false
set_option maxRecDepth 100000
set_option maxHeartbeats 4000000
namespace Toy
open PySem L2 Mine NdefX Gm Pz
/-- the written forms of statements -/
structure FormsAt (K : PySem.W.Frag) (w : World) (a : Addr) : Prop where
  wd : WDict K a words
  get : ∀ x ∈ words, ∃ b, KDct K w a x (.ref b) ∧ ∀ H, SqT K H b ((formOf x).map V.str)
theorem ds_str (x y : Str) : decide (V.str x = V.str y) = decide (x = y) := decide_eq_decide.mpr ⟨V.str.inj, congrArg V.str⟩
theorem can_split {s : Sc} {k : Nat} {x : Str} (h : can s k x = true) (h1 : x ≠ "if") (h2 : x ≠ "after") : x ∈ words := by
  unfold can at h
  rw [if_neg (fun z => z.elim h1 h2)] at h
  exact (List.mem_filter.mp (of_decide_eq_true h)).1
theorem can_pos {s : Sc} {k : Nat} {x : Str} (h : can s k x = true) (h1 : x = "if" ∨ x = "after") : 0 < k := by
  unfold can at h
  rw [if_pos h1] at h
  exact of_decide_eq_true h
section
variable {P : Program} {w : World} {K : PySem.W.Frag} {mg : Str → Option Value} {base : Heap} {file : Str}
theorem ok_stm_step (hP : PrF P file) (T : Txt K mg file) (hF : FormsAt K w T.a_FORMS) (k : Nat) (spC spB : Sp)
    (GC : FnOk P w K mg base (L2.CX P w) (3 * k + 15) T.a_StatementReader_choice T.fd_StatementReader_choice ["self", "depth"] spC)
    (GB : FnOk P w K mg base (L2.CX P w) (3 * k + 15) T.a_StatementReader_block T.fd_StatementReader_block ["self", "depth"] spB)
    (hC : ∀ j, k = j + 1 → ∀ vs H Q E, spChoice T.C_StatementReader T.C_Words T.C_BadText K j vs H Q E → spC vs H Q E) (hB : ∀ j, k = j + 1 → ∀ vs H Q E, spBlock T.C_StatementReader T.C_Words T.C_BadText K j vs H Q E → spB vs H Q E) :
    FnOk P w K mg base (L2.CX P w) (3 * k + 16) T.a_StatementReader_statement T.fd_StatementReader_statement ["self", "depth"] (spStatement T.C_StatementReader T.C_Words T.C_BadText K k) := by
  have G_StatementReader_choice : FnOk P w K mg base (L2.CX P w) (3 * k + 15) T.a_StatementReader_choice T.fd_StatementReader_choice ["self", "depth"] spC := GC
  have G_StatementReader_block : FnOk P w K mg base (L2.CX P w) (3 * k + 15) T.a_StatementReader_block T.fd_StatementReader_block ["self", "depth"] spB := GB
  have G_StatementReader_part : FnOk P w K mg base (L2.CX P w) 15 T.a_StatementReader_part T.fd_StatementReader_part ["self", "kind"] (spPart T.C_StatementReader T.C_Words T.C_BadText K) := ok_part hP T
  have G_Words_take : FnOk P w K mg base CX0 3 T.a_Words_take T.fd_Words_take ["self"] (spTake T.C_Words) := ok_take T
  have G_Words_one_of : FnOk P w K mg base (L2.CX P w) 5 T.a_Words_one_of T.fd_Words_one_of ["self", "choices"] (spOneOf T.C_Words T.C_BadText K) := ok_one_of hP T
  refine T.F_StatementReader_statement.okX sc_StatementReader_statement (fun vs H Q E h => ?_) (fun cdv A outer s H vs Q E hr h => ?_)
  · obtain ⟨r, p, l, ws, i, sc, rfl, _⟩ := h
    rfl
  obtain ⟨r, p, l, ws, i, sc, rfl, wk, hcan, q⟩ := h
  refine ⟨_, (pss_cons (ps_set (i := 2) sc_StatementReader_statement.nd rfl (Or.inl rfl) (pe_meth0 (pe_fld (pv 0) rfl) T.cl_Words T.m_Words_take G_Words_take (hr.mono (by omega)) T.b_Words_take .nil pass0))
    (pss_cons (ps_if (pt_cmpR op_eq (pv 2) pe_str (nomark _))
      (pss_one (ps_ret (pe_meth (pv 0) T.cl_StatementReader T.m_StatementReader_choice G_StatementReader_choice (hr.mono (by omega)) T.b_StatementReader_choice .nil (passes_call (takes_of rfl rfl rfl rfl) (fun _ _ _ _ z => z)) (pa_cons (pe_op op_add (pv 1) pe_int) pa_nil))))
      pss_nil)
    (pss_cons (ps_if (pt_cmpR op_eq (pv 2) pe_str (nomark _))
      (pss_cons (ps_set (i := 3) sc_StatementReader_statement.nd rfl (Or.inl rfl) (pe_meth (pv 0) T.cl_StatementReader T.m_StatementReader_block G_StatementReader_block (hr.mono (by omega)) T.b_StatementReader_block .nil (passes_call (takes_of rfl rfl rfl rfl) (fun _ _ _ _ z => z)) (pa_cons (pe_op op_add (pv 1) pe_int) pa_nil)))
    (pss_cons (ps_expr (pe_meth (pe_fld (pv 0) rfl) T.cl_Words T.m_Words_one_of G_Words_one_of (hr.mono (by omega)) T.b_Words_one_of .nil (passes_call (takes_of rfl rfl rfl rfl) (fun _ _ _ _ z => z)) (pa_cons (pe_tup (pa_cons pe_str pa_nil)) pa_nil)))
    (pss_one (ps_ret (pe_tup (pa_cons pe_str (pa_cons (pv 3) pa_nil)))))))
      pss_nil)
    (pss_one (ps_ret (pe_tup (pa_cons (pv 2) (StX.pa_star (pe_lcX (E := E) (own := [("kind", 4)]) (g := gName 4) (tt := tYes) (takes_of rfl rfl rfl rfl) (fun _ _ _ _ z => z) rfl rfl rfl sc_StatementReader_statement.nd (pi_tup (pe_ix ix_kdict (pe_glob (v := .ref T.a_FORMS) rfl T.g_FORMS rfl) (pv 2) (fun _ _ => rfl))) (blkOk_by (own := [("kind", 4)]) (N := ["self", "depth", "word", "block", "kind"]) (sc := defScope s_StatementReader_statement) (by decide +kernel)) (fun _ _ _ _ _ => pg_name (i := 4) sc_StatementReader_statement.nd rfl (Or.inl rfl)) (fun _ _ _ _ _ => pts_nil) (fun _ _ _ _ _ => (pe_meth (pv 0) T.cl_StatementReader T.m_StatementReader_part G_StatementReader_part (hr.mono (by omega)) T.b_StatementReader_part .nil passC (pa_cons (pv 4) pa_nil)))) pa_nil)))))))), ?_⟩
  obtain ⟨dx, fs, f1, f2⟩ := wk.R.words
  obtain ⟨dx2, fs2, g1, g2⟩ := wk.W.nomt (m := "take")
  have hi : i < ws.length := wk.W.lt_of (can_ne hcan empty_starts)
  refine ⟨_, rfl, r, _, _, _, _, rfl, f1, T.cl_StatementReader, T.na_StatementReader_words, f2, p, dx2, fs2, rfl, g1, g2, p, l, ws, i, rfl, wk.W, hi, fun H1 b1 W1 => ?_⟩
  have wk1 := wk.go _ _ _ b1 W1
  refine ⟨_, rfl, rfl, _, rfl, ?_⟩
  rw [ds_str]
  refine ite2 (fun c => ?_) (fun c => ?_)
  · have c' : wd ws i = "if" := of_decide_eq_true c
    obtain ⟨j, rfl⟩ : ∃ j, k = j + 1 := ⟨k - 1, by have := can_pos hcan (.inl c'); omega⟩
    obtain ⟨dx3, fs3, g3, g4⟩ := wk1.R.nomt (m := "choice")
    refine ⟨_, rfl, r, dx3, fs3, rfl, g3, g4, _, rfl, _, _, rfl, rfl, ?_⟩
    have ed : (6 - ((j + 1 : Nat) : Int) + 1) = 6 - (j : Int) := by omega
    refine hC j rfl _ _ _ _ ⟨r, p, l, ws, i + 1, sc, congrArg (fun z : Int => [V.ref r, V.int z]) ed, wk1, ?_⟩
    unfold pStm at q
    rw [if_pos c'] at q
    exact q.later b1
  have c' : ¬ wd ws i = "if" := fun z => c (decide_eq_true z)
  refine ⟨_, rfl, rfl, _, rfl, ?_⟩
  rw [ds_str]
  refine ite2 (fun c2 => ?_) (fun c2 => ?_)
  · have c2' : wd ws i = "after" := of_decide_eq_true c2
    obtain ⟨j, rfl⟩ : ∃ j, k = j + 1 := ⟨k - 1, by have := can_pos hcan (.inr c2'); omega⟩
    obtain ⟨dx3, fs3, g3, g4⟩ := wk1.R.nomt (m := "block")
    refine ⟨_, rfl, r, dx3, fs3, rfl, g3, g4, _, rfl, _, _, rfl, rfl, ?_⟩
    have ed : (6 - ((j + 1 : Nat) : Int) + 1) = 6 - (j : Int) := by omega
    refine hB j rfl _ _ _ _ ⟨r, p, l, ws, i + 1, sc, congrArg (fun z : Int => [V.ref r, V.int z]) ed, wk1, ?_⟩
    unfold pStm at q
    rw [if_neg c', if_pos c2'] at q
    unfold pAfter at q
    rw [show pLoop ws sc (pStm ws sc j) j ws.length (i + 1) = pBlk ws sc j (i + 1) from rfl] at q
    cases x : pBlk ws sc j (i + 1) with
    | error m =>
      rw [x] at q
      exact Ref.later q b1
    | ok y =>
      obtain ⟨a, m⟩ := y
      rw [x] at q
      dsimp only at q
      intro v H2 b2 W2 d2
      have wk2 := wk1.go _ _ _ b2 W2
      obtain ⟨dx4, fs4, f3, f4⟩ := wk2.R.words
      obtain ⟨dx5, fs5, g5, g6⟩ := wk2.W.nomt (m := "one_of")
      refine ⟨_, rfl, r, _, _, _, _, rfl, f3, T.cl_StatementReader, T.na_StatementReader_words, f4, p, dx5, fs5, rfl, g5, g6, by show 1 ≤ sizeLine; decide, fun t ht => ?_⟩
      have m3 := Gm.same_new ht (.tup [V.str "end"])
      have b3 := But.same (p := p) m3
      refine ⟨p, l, ws, m, _, ["end"], rfl, W2.same m3, ⟨t, rfl, .inr (.inl (SqT.of upd_same))⟩, by decide +kernel, ?_⟩
      unfold Tk1
      by_cases c3 : wd ws m = "end"
      · rw [if_pos c3] at q
        rw [if_pos (decide_eq_true (by rw [c3]; exact List.mem_cons_self))]
        intro H4 b4 W4
        refine ⟨_, rfl, by show 2 ≤ sizeLine; decide, fun t2 ht2 => ?_⟩
        have m5 := Gm.same_new ht2 (.tup [V.str "after", v])
        refine q _ _ (((b1.trans b2).trans (b3.trans b4)).trans (But.same m5)) (W4.same m5) ?_
        unfold Stm.d
        refine dp_tup ht2 (.cons (.str _) (.cons ?_ .nil))
        exact dp_tups ((W2.tups (b3.trans b4))) _ _ (Blk.nol a) d2
      · rw [if_neg c3] at q
        rw [if_neg (fun z => c3 (List.mem_singleton.mp (of_decide_eq_true z)))]
        exact Ref.later q ((b1.trans b2).trans b3)
  have c2' : ¬ wd ws i = "after" := fun z => c2 (decide_eq_true z)
  have hw := can_split hcan c' c2'
  have qs : GEnd Stm.d T.C_Words T.C_BadText K p l ws H Q E (pSimple ws sc i) := by
    cases k with
    | zero => exact q
    | succ j =>
      unfold pStm at q
      rw [if_neg c', if_neg c2'] at q
      exact q
  obtain ⟨ka, kd, kt⟩ := hF.get _ hw
  refine ⟨_, rfl, _, rfl, T.a_FORMS, _, _, rfl, rfl, kd, ka, rfl, ⟨_, kt _⟩, fun D hD => ?_⟩
  have neD : p ≠ D := fun z => by
    obtain ⟨_, _, e, _⟩ := W1.ob
    rw [z, hD] at e
    cases e
  refine lc_it walk_tup (fun t H' => ∃ xs vs j, pParts ws sc ((formOf (wd ws i)).take t) (i + 1) = .ok (xs, j) ∧ But p H1 H' ∧ WAt T.C_Words H' p l ws j ∧ H' D = some (.lst vs) ∧ DpAll K H' vs (xs.map Pt.d) ∧ vs.length ≤ t ∧
      (∀ e, pParts ws sc ((formOf (wd ws i)).drop t) j = .error e → pSimple ws sc i = .error e) ∧ (∀ ys m, pParts ws sc ((formOf (wd ws i)).drop t) j = .ok (ys, m) → pParts ws sc (formOf (wd ws i)) (i + 1) = .ok (xs ++ ys, m)))
    ⟨[], [], i + 1, rfl, But.same (Gm.same_new hD _), W1.same (Gm.same_new hD _), upd_same, .nil, Nat.le_refl _, fun e he => ?_, fun ys m hy => hy⟩ (fun _ H' _ _ => kt H') ?_ ?_
  · unfold pSimple
    rw [show pParts ws sc (formOf (wd ws i)) (i + 1) = .error e from he]
  · rintro t x H2 H3 ht ⟨xs, vs, j, e1, b2, W2, hD2, dd, hl, er, ok⟩ ⟨rfl, ex⟩
    refine ⟨rfl, ?_⟩
    rw [List.getElem?_map] at ex
    obtain ⟨kd', ek, rfl⟩ := Option.map_eq_some_iff.mp ex
    have wk2 := wk1.go _ _ _ b2 W2
    obtain ⟨dx3, fs3, g3, g4⟩ := wk2.R.nomt (m := "part")
    have hk : kd' ∈ formOf (wd ws i) := List.mem_of_getElem? ek
    have et : (formOf (wd ws i)).drop t = kd' :: (formOf (wd ws i)).drop (t + 1) := by
      obtain ⟨hlt, he⟩ := List.getElem?_eq_some_iff.mp ek
      rw [← he]
      exact List.drop_eq_getElem_cons hlt
    refine ⟨_, rfl, r, dx3, fs3, rfl, g3, g4, _, rfl, r, p, l, ws, j, sc, kd', rfl, wk2, form_kinds hw hk, ?_⟩
    rw [et] at er ok
    cases x : pPart ws sc kd' j with
    | error m =>
      have z := er m (by unfold pParts; rw [x])
      rw [z] at qs
      exact Ref.later qs (b1.trans b2)
    | ok y =>
      obtain ⟨y, m⟩ := y
      intro v H4 b4 W4 d4
      have hD4 : H4 D = some (.lst vs) := b4 _ _ hD2 (Ne.symm neD)
      refine ⟨vs, hD4, Nat.lt_of_le_of_lt hl (Nat.lt_of_lt_of_le ht ?_), xs ++ [y], vs ++ [v], m, ?_, fun b o e n => ?_, ?_, upd_same, ?_, ?_, fun e he => ?_, fun ys q2 hy => ?_⟩
      · rw [List.length_map]
        have all : ∀ w ∈ words, (formOf w).length ≤ sizeLine := by decide +kernel
        exact all _ hw
      · rw [take_more ek]
        exact parts_snoc e1 x
      · by_cases hb : b = D
        · rw [hb] at e
          exact absurd (b2.trans b4 |> fun z => z b o (by rw [hb]; exact e) n) (by rw [hb, hD4]; intro z; cases z; rw [hD] at e; cases e)
        · rw [upd_ne hb]
          exact (b2.trans b4) b o e n
      · exact ⟨by obtain ⟨dx9, fs9, e9, rest⟩ := W4.ob; exact ⟨dx9, fs9, by rw [upd_ne neD]; exact e9, rest⟩, by rw [upd_ne (fun z => by have := W4.li; rw [z, hD4] at this; cases this; exact absurd (W1.li) (by rw [z, hD]; intro z; cases z))]; exact W4.li, W4.le, W4.sz, W4.wl⟩
      · rw [List.map_append]
        have tp : Tups H4 (upd H4 D (.lst (vs ++ [v]))) := Tups.lst hD4
        have n1 : nolAll (xs.map Pt.d) = true := parts_nol xs
        exact DpAll.app (dp_tupsAll tp _ _ n1 (dp_tupsAll (W2.tups b4) _ _ n1 dd)) (.cons (dp_tups tp _ _ (Pt.nol y) d4) .nil)
      · rw [List.length_append]
        exact Nat.succ_le_succ hl
      · exact er e (by unfold pParts; rw [x]; dsimp only; rw [he])
      · rw [List.append_assoc]
        exact ok (y :: ys) q2 (by unfold pParts; rw [x]; dsimp only; rw [hy])
  · rintro H2 ⟨xs, vs, j, e1, b2, W2, hD2, dd, hl, er, ok⟩
    have e2 : pParts ws sc (formOf (wd ws i)) (i + 1) = .ok (xs, j) := by
      have z := ok [] j (by rw [List.length_map, List.drop_length]; rfl)
      rw [List.append_nil] at z
      exact z
    refine ⟨D, vs, rfl, .inr (SqL.of hD2), ?_⟩
    have hvs : (V.str (wd ws i) :: (vs ++ [])).length ≤ sizeLine := by
      rw [List.append_nil, List.length_cons]
      rw [List.length_map] at hl
      have all : ∀ w ∈ words, (formOf w).length + 1 ≤ sizeLine := by decide +kernel
      have := all _ hw
      omega
    refine ⟨hvs, fun t2 ht2 => ?_⟩
    have es : pSimple ws sc i = .ok (mkStm (wd ws i) xs, j) := by unfold pSimple; rw [e2]
    rw [es] at qs
    have m5 := Gm.same_new ht2 (.tup (V.str (wd ws i) :: (vs ++ [])))
    refine qs _ _ ((b1.trans b2).trans (But.same m5)) (W2.same m5) ?_
    rw [mk_d hw e2]
    refine dp_tup ht2 (.cons (.str _) ?_)
    rw [List.append_nil]
    exact dd
theorem ok_choice_step (hP : PrF P file) (T : Txt K mg file) (k : Nat)
    (G_StatementReader_block : FnOk P w K mg base (L2.CX P w) (3 * k + 17) T.a_StatementReader_block T.fd_StatementReader_block ["self", "depth"] (spBlock T.C_StatementReader T.C_Words T.C_BadText K k)) :
    FnOk P w K mg base (L2.CX P w) (3 * k + 18) T.a_StatementReader_choice T.fd_StatementReader_choice ["self", "depth"] (spChoice T.C_StatementReader T.C_Words T.C_BadText K k) := by
  have G_StatementReader_expression : FnOk P w K mg base (L2.CX P w) 14 T.a_StatementReader_expression T.fd_StatementReader_expression ["self"] (spExprM T.C_StatementReader T.C_Words T.C_BadText K) := ok_expression hP T
  have G_Words_one_of : FnOk P w K mg base (L2.CX P w) 5 T.a_Words_one_of T.fd_Words_one_of ["self", "choices"] (spOneOf T.C_Words T.C_BadText K) := ok_one_of hP T
  have G_Words_refuse : FnOk P w K mg base (L2.CX P w) 4 T.a_Words_refuse T.fd_Words_refuse ["self"] (spRefuse T.C_Words T.C_BadText) := ok_refuse hP T
  refine T.F_StatementReader_choice.okX sc_StatementReader_choice (fun vs H Q E h => ?_) (fun cdv A outer s H vs Q E hr h => ?_)
  · obtain ⟨r, p, l, ws, i, sc, rfl, _⟩ := h
    rfl
  obtain ⟨r, p, l, ws, i, sc, rfl, wk, q⟩ := h
  refine ⟨_, (pss_cons (ps_set (i := 2) sc_StatementReader_choice.nd rfl (Or.inl rfl) (pe_meth0 (pv 0) T.cl_StatementReader T.m_StatementReader_expression G_StatementReader_expression (hr.mono (by omega)) T.b_StatementReader_expression .nil (passes_call (takes_of rfl rfl rfl rfl) (fun _ _ _ _ z => z))))
    (pss_cons (ps_set (i := 3) sc_StatementReader_choice.nd rfl (Or.inl rfl) (pe_meth (pv 0) T.cl_StatementReader T.m_StatementReader_block G_StatementReader_block (hr.mono (by omega)) T.b_StatementReader_block .nil (passes_call (takes_of rfl rfl rfl rfl) (fun _ _ _ _ z => z)) (pa_cons (pv 1) pa_nil)))
    (pss_cons (ps_if (pt_cmpR op_eq (pe_meth (pe_fld (pv 0) rfl) T.cl_Words T.m_Words_one_of G_Words_one_of (hr.mono (by omega)) T.b_Words_one_of .nil (passes_call (takes_of rfl rfl rfl rfl) (fun _ _ _ _ z => z)) (pa_cons (pe_tup (pa_cons pe_str (pa_cons pe_str pa_nil))) pa_nil)) pe_str (nomark _))
      (pss_one (ps_ret (pe_tup (pa_cons pe_str (pa_cons (pv 2) (pa_cons (pv 3) (pa_cons (pe_tup pa_nil) pa_nil)))))))
      pss_nil)
    (pss_cons (ps_set (i := 4) sc_StatementReader_choice.nd rfl (Or.inl rfl) (pe_meth (pv 0) T.cl_StatementReader T.m_StatementReader_block G_StatementReader_block (hr.mono (by omega)) T.b_StatementReader_block .nil (passes_call (takes_of rfl rfl rfl rfl) (fun _ _ _ _ z => z)) (pa_cons (pv 1) pa_nil)))
    (pss_cons (ps_if (pt_not (pt_truth (pv 4) (by intro _; rfl)))
      (pss_one (ps_expr (pe_meth0 (pe_fld (pv 0) rfl) T.cl_Words T.m_Words_refuse G_Words_refuse (hr.mono (by omega)) T.b_Words_refuse .nil (passes_call (takes_of rfl rfl rfl rfl) (fun _ _ _ _ z => z)))))
      pss_nil)
    (pss_cons (ps_expr (pe_meth (pe_fld (pv 0) rfl) T.cl_Words T.m_Words_one_of G_Words_one_of (hr.mono (by omega)) T.b_Words_one_of .nil (passes_call (takes_of rfl rfl rfl rfl) (fun _ _ _ _ z => z)) (pa_cons (pe_tup (pa_cons pe_str pa_nil)) pa_nil)))
    (pss_one (ps_ret (pe_tup (pa_cons pe_str (pa_cons (pv 2) (pa_cons (pv 3) (pa_cons (pv 4) pa_nil))))))))))))), ?_⟩
  obtain ⟨dx, fs, f1, f2⟩ := wk.R.nomt (m := "expression")
  refine ⟨_, rfl, r, dx, fs, rfl, f1, f2, r, p, l, ws, i, sc, rfl, wk, ?_⟩
  unfold pChoice at q
  cases x1 : pExpr ws sc 7 i with
  | error j =>
    rw [x1] at q
    exact q
  | ok y =>
    obtain ⟨e, j⟩ := y
    rw [x1] at q
    dsimp only at q
    intro v1 H1 b1 W1 d1
    have wk1 := wk.go _ _ _ b1 W1
    obtain ⟨dx2, fs2, f3, f4⟩ := wk1.R.nomt (m := "block")
    refine ⟨_, rfl, r, dx2, fs2, rfl, f3, f4, _, rfl, r, p, l, ws, j, sc, rfl, wk1, ?_⟩
    cases x2 : pBlk ws sc k j with
    | error m =>
      rw [x2] at q
      exact Ref.later q b1
    | ok y =>
      obtain ⟨a, m⟩ := y
      rw [x2] at q
      dsimp only at q
      intro v2 H2 b2 W2 d2
      have b12 := b1.trans b2
      have wk2 := wk1.go _ _ _ b2 W2
      obtain ⟨dx3, fs3, f5, f6⟩ := wk2.R.words
      obtain ⟨dx4, fs4, g5, g6⟩ := wk2.W.nomt (m := "one_of")
      refine ⟨_, rfl, r, _, _, _, _, rfl, f5, T.cl_StatementReader, T.na_StatementReader_words, f6, p, dx4, fs4, rfl, g5, g6, by show 2 ≤ sizeLine; decide, fun t ht => ?_⟩
      have m3 := Gm.same_new ht (.tup [V.str "else", V.str "end"])
      have b3 := But.same (p := p) m3
      refine ⟨p, l, ws, m, _, ["else", "end"], rfl, W2.same m3, ⟨t, rfl, .inr (.inl (SqT.of upd_same))⟩, by decide +kernel, ?_⟩
      unfold Tk1
      by_cases c3 : wd ws m = "end"
      · rw [if_pos c3] at q
        rw [if_pos (decide_eq_true (by rw [c3]; exact List.mem_cons_of_mem _ List.mem_cons_self))]
        intro H4 b4 W4
        refine ⟨rfl, _, rfl, ?_⟩
        rw [ds_str, decide_eq_true c3]
        refine ite2 (fun _ => ?_) (fun z => absurd rfl z)
        refine ⟨_, rfl, _, rfl, by show 0 ≤ sizeLine; decide, fun te hte => ?_⟩
        have m5 := Gm.same_new hte (.tup [])
        refine ⟨by show 4 ≤ sizeLine; decide, fun t2 ht2 => ?_⟩
        have m6 := Gm.same_new ht2 (.tup [V.str "if", v1, v2, V.ref te])
        have b56 : But p _ _ := (But.same (p := p) m5).trans (But.same m6)
        refine q _ _ ((b12.trans (b3.trans b4)).trans b56) ((W4.same m5).same m6) ?_
        unfold Stm.d
        refine dp_tup ht2 (.cons (.str _) (.cons ?_ (.cons ?_ (.cons ?_ .nil))))
        · exact dp_mono m5 _ _ (W1.dp (b2.trans (b3.trans b4)) _ d1)
        · exact dp_mono m5 _ _ (dp_tups ((W2.tups (b3.trans b4))) _ _ (Blk.nol a) d2)
        · unfold Blk.ds
          exact .tup (SqT.of upd_same) .nil
      · rw [if_neg c3] at q
        by_cases c4 : wd ws m = "else"
        · rw [if_pos c4] at q
          rw [if_pos (decide_eq_true (by rw [c4]; exact List.mem_cons_self))]
          intro H4 b4 W4
          refine ⟨rfl, _, rfl, ?_⟩
          rw [ds_str, decide_eq_false c3]
          refine ite2 (fun z => by cases z) (fun _ => ?_)
          have wk4 := wk2.go _ _ _ (b3.trans b4) W4
          obtain ⟨dx5, fs5, f7, f8⟩ := wk4.R.nomt (m := "block")
          refine ⟨_, rfl, r, dx5, fs5, rfl, f7, f8, _, rfl, r, p, l, ws, m + 1, sc, rfl, wk4, ?_⟩
          have b1234 := b12.trans (b3.trans b4)
          cases x3 : pBlk ws sc k (m + 1) with
          | error n =>
            rw [x3] at q
            exact Ref.later q b1234
          | ok y =>
            obtain ⟨b, n⟩ := y
            rw [x3] at q
            dsimp only at q
            intro v5 H5 b5 W5 d5
            have wk5 := wk4.go _ _ _ b5 W5
            have d5' := d5
            unfold Blk.d at d5'
            cases d5' with
            | @tup a5 vs5 ds5 hs5 ha5 =>
              have l5 : vs5.length = b.len := by rw [DpAll.len ha5, Blk.len_ds]
              refine ⟨_, rfl, !vs5.isEmpty, .inr (.inl ⟨_, hs5, rfl⟩), ?_⟩
              have le : vs5.isEmpty = decide (b.len = 0) := by
                cases vs5 with
                | nil => exact (decide_eq_true l5.symm).symm
                | cons z zs => exact (decide_eq_false (by rw [← l5]; exact Nat.succ_ne_zero _)).symm
              rw [le]
              by_cases c5 : b.len = 0
              · rw [if_pos c5] at q
                rw [decide_eq_true c5]
                refine ite2 (fun _ => ?_) (fun z => absurd rfl z)
                obtain ⟨dx6, fs6, f9, f10⟩ := wk5.R.words
                obtain ⟨dx7, fs7, g7, g8⟩ := wk5.W.nomt (m := "refuse")
                exact ⟨_, rfl, r, _, _, _, _, rfl, f9, T.cl_StatementReader, T.na_StatementReader_words, f10, p, dx7, fs7, rfl, g7, g8, p, l, ws, n, rfl, W5, Ref.later q (b1234.trans b5)⟩
              · rw [if_neg c5] at q
                rw [decide_eq_false c5]
                refine ite2 (fun z => by cases z) (fun _ => ?_)
                obtain ⟨dx6, fs6, f9, f10⟩ := wk5.R.words
                obtain ⟨dx7, fs7, g7, g8⟩ := wk5.W.nomt (m := "one_of")
                refine ⟨_, rfl, r, _, _, _, _, rfl, f9, T.cl_StatementReader, T.na_StatementReader_words, f10, p, dx7, fs7, rfl, g7, g8, by show 1 ≤ sizeLine; decide, fun t2 ht2 => ?_⟩
                have m6 := Gm.same_new ht2 (.tup [V.str "end"])
                have b6 := But.same (p := p) m6
                refine ⟨p, l, ws, n, _, ["end"], rfl, W5.same m6, ⟨t2, rfl, .inr (.inl (SqT.of upd_same))⟩, by decide +kernel, ?_⟩
                unfold Tk1
                by_cases c6 : wd ws n = "end"
                · rw [if_pos c6] at q
                  rw [if_pos (decide_eq_true (by rw [c6]; exact List.mem_cons_self))]
                  intro H7 b7 W7
                  refine ⟨_, rfl, _, rfl, _, rfl, by show 4 ≤ sizeLine; decide, fun t3 ht3 => ?_⟩
                  have m8 := Gm.same_new ht3 (.tup [V.str "if", v1, v2, V.ref a5])
                  have b67 := b6.trans b7
                  refine q _ _ (((b1234.trans b5).trans b67).trans (But.same m8)) (W7.same m8) ?_
                  unfold Stm.d
                  refine dp_tup ht3 (.cons (.str _) (.cons ?_ (.cons ?_ (.cons ?_ .nil))))
                  · exact W1.dp (b2.trans ((b3.trans b4).trans (b5.trans b67))) _ d1
                  · exact dp_tups (W2.tups ((b3.trans b4).trans (b5.trans b67))) _ _ (Blk.nol a) d2
                  · exact dp_tups (W5.tups b67) _ _ (Blk.nol b) d5
                · rw [if_neg c6] at q
                  rw [if_neg (fun z => c6 (List.mem_singleton.mp (of_decide_eq_true z)))]
                  exact Ref.later q ((b1234.trans b5).trans b6)
        · rw [if_neg c4] at q
          rw [if_neg (fun z => by
            rcases List.mem_cons.mp (of_decide_eq_true z) with z | z
            · exact c4 z
            · exact c3 (List.mem_singleton.mp z))]
          exact Ref.later q (b12.trans b3)
theorem blk_snoc : ∀ (b : Blk) (x : Stm) (c : Blk), (b.app (.cons x .nil)).app c = b.app (.cons x c)
  | .nil, x, c => by rw [Blk.app, Blk.app, Blk.app, Blk.app]
  | .cons y r, x, c => by rw [Blk.app, Blk.app, Blk.app, blk_snoc r x c]
theorem ok_block_step (hP : PrF P file) (T : Txt K mg file) (k : Nat)
    (G_StatementReader_statement : FnOk P w K mg base (L2.CX P w) (3 * k + 16) T.a_StatementReader_statement T.fd_StatementReader_statement ["self", "depth"] (spStatement T.C_StatementReader T.C_Words T.C_BadText K k)) :
    FnOk P w K mg base (L2.CX P w) (3 * k + 17) T.a_StatementReader_block T.fd_StatementReader_block ["self", "depth"] (spBlock T.C_StatementReader T.C_Words T.C_BadText K k) := by
  have G_StatementReader_can_start : FnOk P w K mg base CX0 1 T.a_StatementReader_can_start T.fd_StatementReader_can_start ["self", "word", "depth"] (spCanStart T.C_StatementReader K) := ok_can_start T
  have G_Words_ahead : FnOk P w K mg base CX0 2 T.a_Words_ahead T.fd_Words_ahead ["self"] (spAhead T.C_Words) := ok_ahead T
  refine T.F_StatementReader_block.ok sc_StatementReader_block (fun vs H Q E h => ?_) (fun cdv A outer s H vs Q E hr h => ?_)
  · obtain ⟨r, p, l, ws, i, sc, rfl, _⟩ := h
    rfl
  obtain ⟨r, p, l, ws, i, sc, rfl, wk, q⟩ := h
  refine ⟨_, (pss_cons (ps_set (i := 2) sc_StatementReader_block.nd rfl (Or.inl rfl) (pe_lst pa_nil))
    (pss_cons (ps_while (passes_of rfl) (pt_val (pe_meth (pv 0) T.cl_StatementReader T.m_StatementReader_can_start G_StatementReader_can_start (hr.mono (by omega)) T.b_StatementReader_can_start .nil pass0 (pa_cons (pe_meth0 (pe_fld (pv 0) rfl) T.cl_Words T.m_Words_ahead G_Words_ahead (hr.mono (by omega)) T.b_Words_ahead .nil pass0) (pa_cons (pv 1) pa_nil))))
      (pss_one (ps_expr (pe_bm PySem.F.plainAttrs_list PySem.F.slot_list_append PySem.F.type_list_append mt_append (pv 2) (pa_cons (pe_meth (pv 0) T.cl_StatementReader T.m_StatementReader_statement G_StatementReader_statement (hr.mono (by omega)) T.b_StatementReader_statement .nil (passes_call (takes_of rfl rfl rfl rfl) (fun _ _ _ _ z => z)) (pa_cons (pv 1) pa_nil)) pa_nil)))))
    (pss_one (ps_ret (pe_callTy call_tuple_of (by rfl) T.z_tuple (by decide +kernel) (pa_cons (pv 2) pa_nil)))))), ?_⟩
  refine ⟨by show 0 ≤ sizeLine; decide, fun L hL => ?_⟩
  have neL : p ≠ L := fun z => by
    obtain ⟨_, _, e, _⟩ := wk.W.ob
    rw [z, hL] at e
    cases e
  have m0 := Gm.same_new hL (.lst [])
  refine ⟨fun m σ H' => ∃ (vs : List V) (bs : Blk) (j : Nat), σ = [some (.ref r), some (.int (6 - (k : Int))), some (.ref L)] ∧ But p H H' ∧ WAt T.C_Words H' p l ws j ∧ H' L = some (.lst vs) ∧ DpAll K H' vs bs.ds ∧ vs.length ≤ j ∧ ws.length ≤ j + m ∧
      (∀ e, pLoop ws sc (pStm ws sc k) k m j = .error e → pBlk ws sc k i = .error e) ∧ (∀ b' m', pLoop ws sc (pStm ws sc k) k m j = .ok (b', m') → pBlk ws sc k i = .ok (bs.app b', m')),
    ⟨ws.length, [], .nil, i, rfl, But.same m0, wk.W.same m0, upd_same, by unfold Blk.ds; exact .nil, Nat.zero_le _, Nat.le_add_left _ _, fun e he => he, fun b' m' hb => by rw [Blk.app]; exact hb⟩, ?_⟩
  rintro m σ H1 ⟨vs, bs, j, rfl, b1, W1, hL1, dd, hl, hm, er, ok⟩
  have wk1 := wk.go _ _ _ b1 W1
  obtain ⟨dx, fs, f1, f2⟩ := wk1.R.nomt (m := "can_start")
  obtain ⟨dx2, fs2, f3, f4⟩ := wk1.R.words
  obtain ⟨dx3, fs3, g1, g2⟩ := wk1.W.nomt (m := "ahead")
  refine ⟨_, rfl, r, dx, fs, rfl, f1, f2, _, rfl, r, _, _, _, _, rfl, f3, T.cl_StatementReader, T.na_StatementReader_words, f4, p, dx3, fs3, rfl, g1, g2, p, l, ws, j, rfl, W1, _, rfl, r, p, sc, wd ws j, k, rfl, wk1.R, fun H2 m2 => ⟨_, rfl, ?_⟩⟩
  have b2 : But p H1 H2 := But.same m2
  have W2 := W1.same m2
  have wk2 := wk1.go _ _ _ b2 W2
  have hL2 := m2 _ _ hL1
  refine ite2 (fun c => ?_) (fun c => ?_)
  · have hj : j < ws.length := W2.lt_of (can_ne c empty_starts)
    obtain ⟨n, rfl⟩ : ∃ n, m = n + 1 := ⟨m - 1, by omega⟩
    unfold pLoop at er ok
    rw [if_pos c] at er ok
    obtain ⟨dx4, fs4, f5, f6⟩ := wk2.R.nomt (m := "statement")
    refine ⟨fun σ H' => ∃ (vs : List V) (bs : Blk) (j : Nat), σ = [some (.ref r), some (.int (6 - (k : Int))), some (.ref L)] ∧ But p H H' ∧ WAt T.C_Words H' p l ws j ∧ H' L = some (.lst vs) ∧ DpAll K H' vs bs.ds ∧ vs.length ≤ j ∧ ws.length ≤ j + n ∧
      (∀ e, pLoop ws sc (pStm ws sc k) k n j = .error e → pBlk ws sc k i = .error e) ∧ (∀ b' m', pLoop ws sc (pStm ws sc k) k n j = .ok (b', m') → pBlk ws sc k i = .ok (bs.app b', m')), fun σ' H' h => ⟨n, Nat.lt_succ_self n, h⟩, ?_⟩
    refine ⟨_, rfl, .inl ⟨rfl, _, SqL.of hL2⟩, _, rfl, r, dx4, fs4, rfl, f5, f6, _, rfl, r, p, l, ws, j, sc, rfl, wk2, c, ?_⟩
    cases x : pStm ws sc k j with
    | error e =>
      have z := er e (by rw [x])
      rw [z] at q
      exact Ref.later q (b1.trans b2)
    | ok y =>
      obtain ⟨y, j2⟩ := y
      have lt := pStm_lt x
      intro v H3 b3 W3 d3
      have hL3 : H3 L = some (.lst vs) := b3 _ _ hL2 (Ne.symm neL)
      refine ⟨L, vs, v, rfl, rfl, hL3, ?_, vs ++ [v], bs.app (.cons y .nil), j2, rfl, fun b o e nb => ?_, ?_, upd_same, ?_, ?_, by omega, fun e he => er e (by rw [x]; dsimp only; rw [he]), fun b' m' hb => ?_⟩
      · have := W1.le
        have := W1.sz
        exact Nat.lt_of_le_of_lt hl (Nat.lt_of_lt_of_le (show j < 1000000 by omega) (by decide))
      · by_cases hb : b = L
        · rw [hb, hL] at e
          cases e
        · rw [upd_ne hb]
          exact ((b1.trans b2).trans b3) b o e nb
      · obtain ⟨dx9, fs9, e9, rest⟩ := W3.ob
        refine ⟨⟨dx9, fs9, by rw [upd_ne neL]; exact e9, rest⟩, ?_, W3.le, W3.sz, W3.wl⟩
        have : l ≠ L := fun z => by
          have h1 := wk.W.li
          rw [z, hL] at h1
          cases h1
        rw [upd_ne this]
        exact W3.li
      · rw [Blk.ds_app]
        have tp : Tups H3 (upd H3 L (.lst (vs ++ [v]))) := Tups.lst hL3
        have n1 := Blk.nol bs
        refine DpAll.app (dp_tupsAll tp _ _ n1 (dp_tupsAll (W2.tups b3) _ _ n1 (dp_tupsAll (W1.tups b2) _ _ n1 dd))) ?_
        unfold Blk.ds
        unfold Blk.ds
        exact .cons (dp_tups tp _ _ (Stm.nol y) d3) .nil
      · rw [List.length_append]
        exact Nat.le_trans (Nat.succ_le_succ hl) lt
      · rw [blk_snoc]
        exact ok (.cons y b') m' (by rw [x]; dsimp only; rw [hb])
  · have hb : pLoop ws sc (pStm ws sc k) k m j = .ok (.nil, j) := by
      cases m with
      | zero => unfold pLoop; rfl
      | succ n => unfold pLoop; rw [if_neg c]
    have z := ok _ _ hb
    rw [z] at q
    refine ⟨_, rfl, L, vs, rfl, .inl ⟨SqL.of hL2, fun t ht => ?_⟩⟩
    have m3 := Gm.same_new ht (.tup vs)
    refine q _ _ ((b1.trans b2).trans (But.same m3)) (W2.same m3) ?_
    unfold Blk.d
    rw [Blk.ds_app]
    have : Blk.nil.ds = [] := by unfold Blk.ds; rfl
    rw [this, List.append_nil]
    exact dp_tup ht (dp_tupsAll (W1.tups b2) _ _ (Blk.nol bs) dd)
theorem ok_stm (hP : PrF P file) (T : Txt K mg file) (hF : FormsAt K w T.a_FORMS) : ∀ k : Nat, FnOk P w K mg base (L2.CX P w) (3 * k + 16) T.a_StatementReader_statement T.fd_StatementReader_statement ["self", "depth"] (spStatement T.C_StatementReader T.C_Words T.C_BadText K k)
  | 0 => ok_stm_step hP T hF 0 (fun _ _ _ _ => False) (fun _ _ _ _ => False) ⟨fun _ _ _ _ h => h.elim, fun _ _ _ _ _ _ _ _ _ _ _ _ _ h => h.elim⟩ ⟨fun _ _ _ _ h => h.elim, fun _ _ _ _ _ _ _ _ _ _ _ _ _ h => h.elim⟩ (fun j h => absurd h (by omega)) (fun j h => absurd h (by omega))
  | k + 1 => ok_stm_step hP T hF (k + 1) _ _ ((ok_choice_step hP T k (ok_block_step hP T k (ok_stm hP T hF k))).mono (by omega)) ((ok_block_step hP T k (ok_stm hP T hF k)).mono (by omega)) (fun j h vs H Q E q => by
      obtain rfl : k = j := by omega
      exact q) (fun j h vs H Q E q => by
      obtain rfl : k = j := by omega
      exact q)
theorem ok_block (hP : PrF P file) (T : Txt K mg file) (hF : FormsAt K w T.a_FORMS) (k : Nat) : FnOk P w K mg base (L2.CX P w) (3 * k + 17) T.a_StatementReader_block T.fd_StatementReader_block ["self", "depth"] (spBlock T.C_StatementReader T.C_Words T.C_BadText K k) := ok_block_step hP T k (ok_stm hP T hF k)
end
end Toy
set_option Elab.async false
set_option linter.all false
set_option maxRecDepth 100000
set_option maxHeartbeats 4000000
namespace Toy
open PySem L2 Mine NdefX Gm Pz
section
variable {P : Program} {w : World} {K : PySem.W.Frag} {mg : Str → Option Value} {base : Heap} {file : Str}
theorem nolAll_get : ∀ {ds : List PyData} {i : Nat} {d : PyData}, nolAll ds = true → ds[i]? = some d → nol d = true
  | [], i, d, _, h => by simp at h
  | x :: xs, 0, d, h, e => by
    obtain rfl : x = d := Option.some.inj e
    exact (Bool.and_eq_true_iff.mp h).1
  | x :: xs, i + 1, d, h, e => nolAll_get (Bool.and_eq_true_iff.mp h).2 (by simpa using e)
theorem ok_another (T : Txt K mg file) : FnOk P w K mg base CX0 4 T.a_another T.fd_another ["words", "kind", "found"] (spAnother T.C_Words K) := by
  have G_Words_ahead : FnOk P w K mg base CX0 2 T.a_Words_ahead T.fd_Words_ahead ["self"] (spAhead T.C_Words) := ok_ahead T
  have G_Words_take : FnOk P w K mg base CX0 3 T.a_Words_take T.fd_Words_take ["self"] (spTake T.C_Words) := ok_take T
  refine T.F_another.ok sc_another (fun vs H Q E h => ?_) (fun cdv A outer s H vs Q E hr h => ?_)
  · obtain ⟨p, l, f, ws, i, k, xs, rfl, _⟩ := h
    rfl
  obtain ⟨p, l, f, ws, i, k, xs, rfl, W, hk, hf, q⟩ := h
  refine ⟨_, (pss_cons (ps_if (PW.pt (pw_or (pt_cmpR op_ne (pe_meth0 (pv 0) T.cl_Words T.m_Words_ahead G_Words_ahead (hr.mono (by decide)) T.b_Words_ahead .nil pass0) (pv 1) (nomark _)) (pw_or1 (pt_cmpR op_eq (pe_callB call_len_seq (by rfl) T.z_len (by decide +kernel) (pa_cons (pv 2) pa_nil)) (pe_glob (v := .int 6) rfl T.g_MOST_OF_A_KIND.choose_spec ⟨_, rfl⟩) (nomark _)))))
      (pss_one (ps_ret pe_bl))
      pss_nil)
    (pss_cons (ps_expr (pe_meth0 (pv 0) T.cl_Words T.m_Words_take G_Words_take (hr.mono (by decide)) T.b_Words_take .nil pass0))
    (pss_one (ps_ret pe_bl)))), ?_⟩
  obtain ⟨dx, fs, e1, e2⟩ := W.nomt (m := "ahead")
  refine ⟨_, rfl, p, dx, fs, rfl, e1, e2, p, l, ws, i, rfl, W, _, rfl, rfl, _, rfl, ?_⟩
  rw [ds_str]
  by_cases c : wd ws i = k
  · rw [decide_eq_true c]
    refine ite2 (fun z => by cases z) (fun _ => ?_)
    refine ⟨_, rfl, f, _, rfl, .inl hf, rfl, _, rfl, ?_⟩
    have dl : decide (V.int ((xs.length : Nat) : Int) = V.int 6) = decide (xs.length = 6) := decide_eq_decide.mpr ⟨fun z => by have := V.int.inj z; omega, fun z => by rw [z]; rfl⟩
    rw [dl]
    by_cases c2 : xs.length = 6
    · rw [decide_eq_true c2]
      rw [if_neg (fun z => z.2 c2)] at q
      exact ite2 (fun _ => q) (fun z => absurd rfl z)
    · rw [decide_eq_false c2]
      rw [if_pos ⟨c, c2⟩] at q
      refine ite2 (fun z => by cases z) (fun _ => ?_)
      have hi : i < ws.length := W.lt_of (by rw [c]; exact hk)
      obtain ⟨dx2, fs2, e3, e4⟩ := W.nomt (m := "take")
      exact ⟨_, rfl, p, dx2, fs2, rfl, e3, e4, p, l, ws, i, rfl, W, hi, fun H' b W' => q H' b W'⟩
  · rw [decide_eq_false c]
    rw [if_neg (fun z => c z.1)] at q
    exact ite2 (fun _ => q) (fun z => absurd rfl z)
theorem ok_first (T : Txt K mg file) : FnOk P w K mg base CX0 1 T.a_first_parts T.fd_first_parts ["rows"] (spFirst K) := by
  refine T.F_first_parts.ok sc_first_parts (fun vs H Q E h => ?_) (fun cdv A outer s H vs Q E hr h => ?_)
  · obtain ⟨a, xs, ds, names, rfl, _⟩ := h
    rfl
  obtain ⟨a, xs, ds, names, rfl, hx, hd, hn, hh, hl, q⟩ := h
  refine ⟨_, (pss_one (ps_ret (pe_lc (own := [("row", 1)]) (g := gName 1) (tt := tYes) rfl sc_first_parts.nd (pi_seqK K rfl (pv 0)) (blkOk_by (own := [("row", 1)]) (N := ["rows", "row"]) (sc := defScope s_first_parts) (by decide +kernel)) (fun _ _ _ _ _ => pg_name (i := 1) sc_first_parts.nd rfl (Or.inl rfl)) (fun _ _ _ _ _ => pts_nil) (fun _ _ _ _ _ => (pe_ix (ixtK K rfl) (pv 1) pe_int (fun _ _ => rfl)))))), ?_⟩
  have lx : xs.length = names.length := (DpAll.len hd).trans hh.1
  rcases hx with hx | hx
  · refine .inl ⟨_, rfl, a, rfl, ⟨_, hx⟩, fun D hD => ?_⟩
    refine lc_it walk_list (fun t H' => Same H H' ∧ H' D = some (.lst ((names.take t).map V.str))) ⟨Gm.same_new hD _, upd_same⟩ (fun _ H' _ h => h.1.seq hx) ?_ ?_
    · rintro t x H2 H3 ht ⟨m, e1⟩ ⟨rfl, ex⟩
      refine ⟨rfl, ?_⟩
      obtain ⟨n, en⟩ : ∃ n, names[t]? = some n := ⟨names[t]'(by rw [← lx]; exact ht), List.getElem?_eq_getElem _⟩
      obtain ⟨rest, ed⟩ := hh.2 t n en
      obtain ⟨v, ev, dv⟩ := DpAll.get hd ed
      rw [ex] at ev
      cases ev
      have nt : nol (.tuple (.str n :: rest)) = true := nolAll_get hn ed
      cases dv with
      | tup hs ha =>
        cases ha with
        | cons h1 h2 =>
          cases h1
          refine ⟨_, rfl, _, _, 0, _, rfl, rfl, sqT_mono m hs, atI_nat (j := 0) rfl, _, e1, ?_, fun b o z => ?_, ?_⟩
          · rw [List.length_map, List.length_take]
            exact Nat.lt_of_le_of_lt (Nat.min_le_right _ _) (Nat.lt_of_lt_of_le (show names.length < 1000000 by omega) (by decide))
          · rw [upd_ne (ne_of_none z hD)]
            exact m _ _ z
          · rw [upd_same, take_more en, List.map_append]
            rfl
    · rintro H1 ⟨m, e1⟩
      rw [lx, List.take_length] at e1
      exact q D H1 m hD e1
  · refine .inr ⟨_, rfl, a, rfl, ⟨_, hx⟩, fun D hD => ?_⟩
    refine lc_it walk_tup (fun t H' => Same H H' ∧ H' D = some (.lst ((names.take t).map V.str))) ⟨Gm.same_new hD _, upd_same⟩ (fun _ H' _ h => sqT_mono h.1 hx) ?_ ?_
    · rintro t x H2 H3 ht ⟨m, e1⟩ ⟨rfl, ex⟩
      refine ⟨rfl, ?_⟩
      obtain ⟨n, en⟩ : ∃ n, names[t]? = some n := ⟨names[t]'(by rw [← lx]; exact ht), List.getElem?_eq_getElem _⟩
      obtain ⟨rest, ed⟩ := hh.2 t n en
      obtain ⟨v, ev, dv⟩ := DpAll.get hd ed
      rw [ex] at ev
      cases ev
      have nt : nol (.tuple (.str n :: rest)) = true := nolAll_get hn ed
      cases dv with
      | tup hs ha =>
        cases ha with
        | cons h1 h2 =>
          cases h1
          refine ⟨_, rfl, _, _, 0, _, rfl, rfl, sqT_mono m hs, atI_nat (j := 0) rfl, _, e1, ?_, fun b o z => ?_, ?_⟩
          · rw [List.length_map, List.length_take]
            exact Nat.lt_of_le_of_lt (Nat.min_le_right _ _) (Nat.lt_of_lt_of_le (show names.length < 1000000 by omega) (by decide))
          · rw [upd_ne (ne_of_none z hD)]
            exact m _ _ z
          · rw [upd_same, take_more en, List.map_append]
            rfl
    · rintro H1 ⟨m, e1⟩
      rw [lx, List.take_length] at e1
      exact q D H1 m hD e1
theorem ok_read_variables (hP : PrF P file) (T : Txt K mg file) : FnOk P w K mg base (L2.CX P w) 6 T.a_read_variables T.fd_read_variables ["words"] (spRows T.C_Words T.C_BadText K (some "var") (fun ws => pVar ws)) := by
  have G_another : FnOk P w K mg base CX0 4 T.a_another T.fd_another ["words", "kind", "found"] (spAnother T.C_Words K) := ok_another T
  have G_first_parts : FnOk P w K mg base CX0 1 T.a_first_parts T.fd_first_parts ["rows"] (spFirst K) := ok_first T
  have G_Words_name : FnOk P w K mg base (L2.CX P w) 5 T.a_Words_name T.fd_Words_name ["self", "taken"] (spName T.C_Words T.C_BadText K) := ok_name hP T
  have G_Words_number : FnOk P w K mg base (L2.CX P w) 5 T.a_Words_number T.fd_Words_number ["self", "least", "greatest"] (spNumber T.C_Words T.C_BadText) := ok_number hP T
  refine T.F_read_variables.okX sc_read_variables (fun vs H Q E h => ?_) (fun cdv A outer s H vs Q E hr h => ?_)
  · obtain ⟨p, l, ws, i, k, hv, _⟩ := h
    rw [hv.1]; rfl
  obtain ⟨p, l, ws, i, k, hv, hk, W, q⟩ := h
  obtain ⟨rfl, rfl⟩ := hv
  change GEnd trips _ _ _ _ _ _ _ _ _ (pMany ws "var" (pVar ws) 6 [] i) at q
  generalize hR : pMany ws "var" (pVar ws) 6 [] i = R at q
  refine ⟨_, (pss_cons (ps_set (i := 1) sc_read_variables.nd rfl (Or.inl rfl) (pe_lst pa_nil))
    (pss_cons (ps_while (passes_of rfl) (pt_val (pe_call G_another (hr.mono (by decide)) rfl T.g_another T.k_another T.b_another .nil pass0 (pa_cons (pv 0) (pa_cons pe_str (pa_cons (pv 1) pa_nil)))))
      (pss_cons (ps_set (i := 2) sc_read_variables.nd rfl (Or.inl rfl) (pe_meth (pv 0) T.cl_Words T.m_Words_name G_Words_name (hr.mono (by decide)) T.b_Words_name .nil (passes_call (takes_of rfl rfl rfl rfl) (fun _ _ _ _ z => z)) (pa_cons (pe_call G_first_parts (hr.mono (by decide)) rfl T.g_first_parts T.k_first_parts T.b_first_parts .nil pass0 (pa_cons (pv 1) pa_nil)) pa_nil)))
    (pss_cons (ps_set (i := 3) sc_read_variables.nd rfl (Or.inl rfl) (pe_meth (pv 0) T.cl_Words T.m_Words_number G_Words_number (hr.mono (by decide)) T.b_Words_number .nil (passes_call (takes_of rfl rfl rfl rfl) (fun _ _ _ _ z => z)) (pa_cons pe_int (pa_cons (pe_glob (v := .int 65535) rfl T.g_GREATEST_NUMBER.choose_spec ⟨_, rfl⟩) pa_nil))))
    (pss_one (ps_expr (pe_bm PySem.F.plainAttrs_list PySem.F.slot_list_append PySem.F.type_list_append mt_append (pv 1) (pa_cons (pe_tup (pa_cons (pv 2) (pa_cons (pv 3) (pa_cons (pe_meth (pv 0) T.cl_Words T.m_Words_number G_Words_number (hr.mono (by decide)) T.b_Words_number .nil (passes_call (takes_of rfl rfl rfl rfl) (fun _ _ _ _ z => z)) (pa_cons pe_int (pa_cons (pe_op op_sub (pv 3) pe_int) pa_nil))) pa_nil)))) pa_nil)))))))
    (pss_one (ps_ret (pe_callTy call_tuple_of (by rfl) T.z_tuple (by decide +kernel) (pa_cons (pv 1) pa_nil)))))), ?_⟩
  refine ⟨by show 0 ≤ sizeLine; decide, fun L hL => ?_⟩
  have neL : p ≠ L := fun z => by
    obtain ⟨_, _, e, _⟩ := W.ob
    rw [z, hL] at e
    cases e
  have neLl : l ≠ L := fun z => by
    have h1 := W.li
    rw [z, hL] at h1
    cases h1
  have m0 := Gm.same_new hL (.lst [])
  refine ⟨fun m σ H' => ∃ (vs : List V) (rs : List Row) (j : Nat) (y2 y3 : Option V), σ = [some (.ref p), some (.ref L), y2, y3] ∧ But p H H' ∧ WAt T.C_Words H' p l ws j ∧ H' L = some (.lst vs) ∧ DpAll K H' vs (rs.map trip) ∧ rs.length + m = 6 ∧
      pMany ws "var" (pVar ws) m rs j = R, ⟨6, [], [], i, none, none, rfl, But.same m0, W.same m0, upd_same, .nil, rfl, hR⟩, ?_⟩
  rintro m σ H1 ⟨vs, rs, j, y2, y3, rfl, b1, W1, hL1, dd, hm, eq⟩
  have lv : vs.length = rs.length := (DpAll.len dd).trans (List.length_map _)
  refine ⟨_, rfl, _, rfl, p, l, L, ws, j, "var", vs, rfl, W1, hk, SqL.of hL1, ?_⟩
  by_cases c : wd ws j = "var" ∧ vs.length ≠ 6
  · rw [if_pos c]
    obtain ⟨n, rfl⟩ : ∃ n, m = n + 1 := ⟨m - 1, by have := c.2; omega⟩
    unfold pMany at eq
    rw [if_pos c.1] at eq
    intro H2 b2 W2
    refine ⟨_, rfl, ?_⟩
    refine ite2 (fun _ => ?_) (fun z => absurd rfl z)
    refine ⟨fun σ H' => ∃ (vs : List V) (rs : List Row) (j : Nat) (y2 y3 : Option V), σ = [some (.ref p), some (.ref L), y2, y3] ∧ But p H H' ∧ WAt T.C_Words H' p l ws j ∧ H' L = some (.lst vs) ∧ DpAll K H' vs (rs.map trip) ∧ rs.length + n = 6 ∧
      pMany ws "var" (pVar ws) n rs j = R, fun σ' H' h => ⟨n, Nat.lt_succ_self n, h⟩, ?_⟩
    have hL2 := b2 _ _ hL1 (Ne.symm neL)
    have nr := nolAll_trips rs
    have dd2 := dp_tupsAll (W1.tups b2) _ _ nr dd
    have b12 := b1.trans b2
    obtain ⟨dx, fs, f1, f2⟩ := W2.nomt (m := "name")
    refine ⟨_, rfl, p, dx, fs, rfl, f1, f2, _, rfl, L, vs, rs.map trip, rs.map (·.1), rfl, .inl (SqL.of hL2), dd2, nr, heads_rows rs, by omega, fun L2 H3 m3 hL2n hL3 => ?_⟩
    have W3 := W2.same m3
    have b3 : But p H2 H3 := But.same m3
    refine ⟨p, l, ws, j + 1, L2, rs.map (·.1), rfl, W3, .inl (SqL.of hL3), ?_⟩
    rw [show pVar ws rs (j + 1) = (if nameAt ws (rs.map (·.1)) (j + 1) = true then if numAt ws 1 65535 (j + 2) = true then if numAt ws 0 (numI ws (j + 2) - 1) (j + 3) = true then .ok ((wd ws (j + 1), numI ws (j + 2), numI ws (j + 3)), j + 4) else .error (j + 3) else .error (j + 2) else .error (j + 1)) from rfl] at eq
    unfold Tk1
    change if nameAt ws (rs.map (·.1)) (j + 1) = true then _ else _
    by_cases c1 : nameAt ws (rs.map (·.1)) (j + 1) = true
    · rw [if_pos c1] at eq
      rw [if_pos c1]
      intro H4 b4 W4
      obtain ⟨dx4, fs4, f3, f4⟩ := W4.nomt (m := "number")
      refine ⟨_, rfl, p, dx4, fs4, rfl, f3, f4, p, l, ws, j + 2, 1, 65535, rfl, W4, ?_⟩
      unfold Tk1
      change if numAt ws 1 65535 (j + 2) = true then _ else _
      by_cases c2 : numAt ws 1 65535 (j + 2) = true
      · rw [if_pos c2] at eq
        rw [if_pos c2]
        intro H5 b5 W5
        have b345 : But p H2 H5 := b3.trans (b4.trans b5)
        have hL5 : H5 L = some (.lst vs) := b345 _ _ hL2 (Ne.symm neL)
        obtain ⟨dx5, fs5, f5, f6⟩ := W5.nomt (m := "number")
        refine ⟨_, rfl, .inl ⟨rfl, _, SqL.of hL5⟩, _, rfl, _, rfl, _, rfl, p, dx5, fs5, rfl, f5, f6, _, rfl, _, _, rfl, rfl, p, l, ws, j + 3, 0, (numI ws (j + 2) - 1), rfl, W5, ?_⟩
        unfold Tk1
        change if numAt ws 0 (numI ws (j + 2) - 1) (j + 3) = true then _ else _
        by_cases c3 : numAt ws 0 (numI ws (j + 2) - 1) (j + 3) = true
        · rw [if_pos c3] at eq
          rw [if_pos c3]
          intro H6 b6 W6
          refine ⟨by show 3 ≤ sizeLine; decide, fun t ht => ?_⟩
          have m7 := Gm.same_new ht (.tup [V.str (wd ws (j + 1)), V.int (numI ws (j + 2)), V.int (numI ws (j + 3))])
          have hL6 : H6 L = some (.lst vs) := b6 _ _ hL5 (Ne.symm neL)
          have hL7 := m7 _ _ hL6
          have W7 := W6.same m7
          refine ⟨L, vs, V.ref t, rfl, rfl, hL7, Nat.lt_of_lt_of_le (show vs.length < 7 by omega) (by decide), vs ++ [V.ref t], rs ++ [(wd ws (j + 1), numI ws (j + 2), numI ws (j + 3))], j + 4, _, _, rfl, fun b o e nb => ?_, ?_, upd_same, ?_, ?_, eq⟩
          · by_cases hb : b = L
            · rw [hb, hL] at e
              cases e
            · rw [upd_ne hb]
              exact ((b12.trans (b345.trans b6)).trans (But.same m7)) b o e nb
          · obtain ⟨dx9, fs9, e9, rest⟩ := W7.ob
            exact ⟨⟨dx9, fs9, by rw [upd_ne neL]; exact e9, rest⟩, by rw [upd_ne neLl]; exact W7.li, W7.le, W7.sz, W7.wl⟩
          · rw [List.map_append]
            have tp := Tups.lst hL7 (o := .lst (vs ++ [V.ref t]))
            refine DpAll.app (dp_tupsAll tp _ _ nr (dp_monoAll m7 _ _ (dp_tupsAll (W2.tups (b345.trans b6)) _ _ nr dd2))) (.cons (dp_tups tp _ _ (nol_trip _) ?_) .nil)
            exact dp_tup ht (.cons (.str _) (.cons (.int _) (.cons (.int _) .nil)))
          · rw [List.length_append]
            show rs.length + 1 + n = 6
            omega
        · rw [if_neg c3] at eq
          rw [if_neg c3]
          rw [← eq] at q
          exact Ref.later q (b12.trans b345)
      · rw [if_neg c2] at eq
        rw [if_neg c2]
        rw [← eq] at q
        exact Ref.later q (b12.trans (b3.trans b4))
    · rw [if_neg c1] at eq
      rw [if_neg c1]
      rw [← eq] at q
      exact Ref.later q (b12.trans b3)
  · rw [if_neg c]
    refine ⟨_, rfl, ?_⟩
    refine ite2 (fun z => by cases z) (fun _ => ?_)
    have hb : pMany ws "var" (pVar ws) m rs j = .ok (rs, j) := by
      cases m with
      | zero => unfold pMany; rfl
      | succ n =>
        unfold pMany
        rw [if_neg (fun z => c ⟨z, by omega⟩)]
    rw [← eq, hb] at q
    refine ⟨_, rfl, L, vs, rfl, .inl ⟨SqL.of hL1, fun t ht => ?_⟩⟩
    have m3 := Gm.same_new ht (.tup vs)
    exact q _ _ (b1.trans (But.same m3)) (W1.same m3) (dp_tup ht dd)
theorem ok_read_maps (hP : PrF P file) (T : Txt K mg file) : FnOk P w K mg base (L2.CX P w) 6 T.a_read_maps T.fd_read_maps ["words", "kind"] (spRows T.C_Words T.C_BadText K none (fun ws => pMap ws)) := by
  have G_another : FnOk P w K mg base CX0 4 T.a_another T.fd_another ["words", "kind", "found"] (spAnother T.C_Words K) := ok_another T
  have G_first_parts : FnOk P w K mg base CX0 1 T.a_first_parts T.fd_first_parts ["rows"] (spFirst K) := ok_first T
  have G_Words_name : FnOk P w K mg base (L2.CX P w) 5 T.a_Words_name T.fd_Words_name ["self", "taken"] (spName T.C_Words T.C_BadText K) := ok_name hP T
  have G_Words_number : FnOk P w K mg base (L2.CX P w) 5 T.a_Words_number T.fd_Words_number ["self", "least", "greatest"] (spNumber T.C_Words T.C_BadText) := ok_number hP T
  refine T.F_read_maps.okX sc_read_maps (fun vs H Q E h => ?_) (fun cdv A outer s H vs Q E hr h => ?_)
  · obtain ⟨p, l, ws, i, k, hv, _⟩ := h
    rw [hv]; rfl
  obtain ⟨p, l, ws, i, k, hv, hk, W, q⟩ := h
  obtain rfl := hv
  change GEnd trips _ _ _ _ _ _ _ _ _ (pMany ws k (pMap ws) 6 [] i) at q
  generalize hR : pMany ws k (pMap ws) 6 [] i = R at q
  refine ⟨_, (pss_cons (ps_set (i := 2) sc_read_maps.nd rfl (Or.inl rfl) (pe_lst pa_nil))
    (pss_cons (ps_while (passes_of rfl) (pt_val (pe_call G_another (hr.mono (by decide)) rfl T.g_another T.k_another T.b_another .nil pass0 (pa_cons (pv 0) (pa_cons (pv 1) (pa_cons (pv 2) pa_nil)))))
      (pss_cons (ps_set (i := 3) sc_read_maps.nd rfl (Or.inl rfl) (pe_meth (pv 0) T.cl_Words T.m_Words_name G_Words_name (hr.mono (by decide)) T.b_Words_name .nil (passes_call (takes_of rfl rfl rfl rfl) (fun _ _ _ _ z => z)) (pa_cons (pe_call G_first_parts (hr.mono (by decide)) rfl T.g_first_parts T.k_first_parts T.b_first_parts .nil pass0 (pa_cons (pv 2) pa_nil)) pa_nil)))
    (pss_cons (ps_set (i := 4) sc_read_maps.nd rfl (Or.inl rfl) (pe_meth (pv 0) T.cl_Words T.m_Words_number G_Words_number (hr.mono (by decide)) T.b_Words_number .nil (passes_call (takes_of rfl rfl rfl rfl) (fun _ _ _ _ z => z)) (pa_cons pe_int (pa_cons (pe_glob (v := .int 64) rfl T.g_GREATEST_COUNT.choose_spec ⟨_, rfl⟩) pa_nil))))
    (pss_one (ps_expr (pe_bm PySem.F.plainAttrs_list PySem.F.slot_list_append PySem.F.type_list_append mt_append (pv 2) (pa_cons (pe_tup (pa_cons (pv 3) (pa_cons (pv 4) (pa_cons (pe_meth (pv 0) T.cl_Words T.m_Words_number G_Words_number (hr.mono (by decide)) T.b_Words_number .nil (passes_call (takes_of rfl rfl rfl rfl) (fun _ _ _ _ z => z)) (pa_cons pe_int (pa_cons (pe_glob (v := .int 64) rfl T.g_GREATEST_COUNT.choose_spec ⟨_, rfl⟩) pa_nil))) pa_nil)))) pa_nil)))))))
    (pss_one (ps_ret (pe_callTy call_tuple_of (by rfl) T.z_tuple (by decide +kernel) (pa_cons (pv 2) pa_nil)))))), ?_⟩
  refine ⟨by show 0 ≤ sizeLine; decide, fun L hL => ?_⟩
  have neL : p ≠ L := fun z => by
    obtain ⟨_, _, e, _⟩ := W.ob
    rw [z, hL] at e
    cases e
  have neLl : l ≠ L := fun z => by
    have h1 := W.li
    rw [z, hL] at h1
    cases h1
  have m0 := Gm.same_new hL (.lst [])
  refine ⟨fun m σ H' => ∃ (vs : List V) (rs : List Row) (j : Nat) (y2 y3 : Option V), σ = [some (.ref p), some (.str k), some (.ref L), y2, y3] ∧ But p H H' ∧ WAt T.C_Words H' p l ws j ∧ H' L = some (.lst vs) ∧ DpAll K H' vs (rs.map trip) ∧ rs.length + m = 6 ∧
      pMany ws k (pMap ws) m rs j = R, ⟨6, [], [], i, none, none, rfl, But.same m0, W.same m0, upd_same, .nil, rfl, hR⟩, ?_⟩
  rintro m σ H1 ⟨vs, rs, j, y2, y3, rfl, b1, W1, hL1, dd, hm, eq⟩
  have lv : vs.length = rs.length := (DpAll.len dd).trans (List.length_map _)
  refine ⟨_, rfl, _, rfl, _, rfl, p, l, L, ws, j, k, vs, rfl, W1, hk, SqL.of hL1, ?_⟩
  by_cases c : wd ws j = k ∧ vs.length ≠ 6
  · rw [if_pos c]
    obtain ⟨n, rfl⟩ : ∃ n, m = n + 1 := ⟨m - 1, by have := c.2; omega⟩
    unfold pMany at eq
    rw [if_pos c.1] at eq
    intro H2 b2 W2
    refine ⟨_, rfl, ?_⟩
    refine ite2 (fun _ => ?_) (fun z => absurd rfl z)
    refine ⟨fun σ H' => ∃ (vs : List V) (rs : List Row) (j : Nat) (y2 y3 : Option V), σ = [some (.ref p), some (.str k), some (.ref L), y2, y3] ∧ But p H H' ∧ WAt T.C_Words H' p l ws j ∧ H' L = some (.lst vs) ∧ DpAll K H' vs (rs.map trip) ∧ rs.length + n = 6 ∧
      pMany ws k (pMap ws) n rs j = R, fun σ' H' h => ⟨n, Nat.lt_succ_self n, h⟩, ?_⟩
    have hL2 := b2 _ _ hL1 (Ne.symm neL)
    have nr := nolAll_trips rs
    have dd2 := dp_tupsAll (W1.tups b2) _ _ nr dd
    have b12 := b1.trans b2
    obtain ⟨dx, fs, f1, f2⟩ := W2.nomt (m := "name")
    refine ⟨_, rfl, p, dx, fs, rfl, f1, f2, _, rfl, L, vs, rs.map trip, rs.map (·.1), rfl, .inl (SqL.of hL2), dd2, nr, heads_rows rs, by omega, fun L2 H3 m3 hL2n hL3 => ?_⟩
    have W3 := W2.same m3
    have b3 : But p H2 H3 := But.same m3
    refine ⟨p, l, ws, j + 1, L2, rs.map (·.1), rfl, W3, .inl (SqL.of hL3), ?_⟩
    rw [show pMap ws rs (j + 1) = (if nameAt ws (rs.map (·.1)) (j + 1) = true then if numAt ws 1 64 (j + 2) = true then if numAt ws 1 64 (j + 3) = true then .ok ((wd ws (j + 1), numI ws (j + 2), numI ws (j + 3)), j + 4) else .error (j + 3) else .error (j + 2) else .error (j + 1)) from rfl] at eq
    unfold Tk1
    change if nameAt ws (rs.map (·.1)) (j + 1) = true then _ else _
    by_cases c1 : nameAt ws (rs.map (·.1)) (j + 1) = true
    · rw [if_pos c1] at eq
      rw [if_pos c1]
      intro H4 b4 W4
      obtain ⟨dx4, fs4, f3, f4⟩ := W4.nomt (m := "number")
      refine ⟨_, rfl, p, dx4, fs4, rfl, f3, f4, p, l, ws, j + 2, 1, 64, rfl, W4, ?_⟩
      unfold Tk1
      change if numAt ws 1 64 (j + 2) = true then _ else _
      by_cases c2 : numAt ws 1 64 (j + 2) = true
      · rw [if_pos c2] at eq
        rw [if_pos c2]
        intro H5 b5 W5
        have b345 : But p H2 H5 := b3.trans (b4.trans b5)
        have hL5 : H5 L = some (.lst vs) := b345 _ _ hL2 (Ne.symm neL)
        obtain ⟨dx5, fs5, f5, f6⟩ := W5.nomt (m := "number")
        refine ⟨_, rfl, .inl ⟨rfl, _, SqL.of hL5⟩, _, rfl, _, rfl, _, rfl, p, dx5, fs5, rfl, f5, f6, p, l, ws, j + 3, 1, 64, rfl, W5, ?_⟩
        unfold Tk1
        change if numAt ws 1 64 (j + 3) = true then _ else _
        by_cases c3 : numAt ws 1 64 (j + 3) = true
        · rw [if_pos c3] at eq
          rw [if_pos c3]
          intro H6 b6 W6
          refine ⟨by show 3 ≤ sizeLine; decide, fun t ht => ?_⟩
          have m7 := Gm.same_new ht (.tup [V.str (wd ws (j + 1)), V.int (numI ws (j + 2)), V.int (numI ws (j + 3))])
          have hL6 : H6 L = some (.lst vs) := b6 _ _ hL5 (Ne.symm neL)
          have hL7 := m7 _ _ hL6
          have W7 := W6.same m7
          refine ⟨L, vs, V.ref t, rfl, rfl, hL7, Nat.lt_of_lt_of_le (show vs.length < 7 by omega) (by decide), vs ++ [V.ref t], rs ++ [(wd ws (j + 1), numI ws (j + 2), numI ws (j + 3))], j + 4, _, _, rfl, fun b o e nb => ?_, ?_, upd_same, ?_, ?_, eq⟩
          · by_cases hb : b = L
            · rw [hb, hL] at e
              cases e
            · rw [upd_ne hb]
              exact ((b12.trans (b345.trans b6)).trans (But.same m7)) b o e nb
          · obtain ⟨dx9, fs9, e9, rest⟩ := W7.ob
            exact ⟨⟨dx9, fs9, by rw [upd_ne neL]; exact e9, rest⟩, by rw [upd_ne neLl]; exact W7.li, W7.le, W7.sz, W7.wl⟩
          · rw [List.map_append]
            have tp := Tups.lst hL7 (o := .lst (vs ++ [V.ref t]))
            refine DpAll.app (dp_tupsAll tp _ _ nr (dp_monoAll m7 _ _ (dp_tupsAll (W2.tups (b345.trans b6)) _ _ nr dd2))) (.cons (dp_tups tp _ _ (nol_trip _) ?_) .nil)
            exact dp_tup ht (.cons (.str _) (.cons (.int _) (.cons (.int _) .nil)))
          · rw [List.length_append]
            show rs.length + 1 + n = 6
            omega
        · rw [if_neg c3] at eq
          rw [if_neg c3]
          rw [← eq] at q
          exact Ref.later q (b12.trans b345)
      · rw [if_neg c2] at eq
        rw [if_neg c2]
        rw [← eq] at q
        exact Ref.later q (b12.trans (b3.trans b4))
    · rw [if_neg c1] at eq
      rw [if_neg c1]
      rw [← eq] at q
      exact Ref.later q (b12.trans b3)
  · rw [if_neg c]
    refine ⟨_, rfl, ?_⟩
    refine ite2 (fun z => by cases z) (fun _ => ?_)
    have hb : pMany ws k (pMap ws) m rs j = .ok (rs, j) := by
      cases m with
      | zero => unfold pMany; rfl
      | succ n =>
        unfold pMany
        rw [if_neg (fun z => c ⟨z, by omega⟩)]
    rw [← eq, hb] at q
    refine ⟨_, rfl, L, vs, rfl, .inl ⟨SqL.of hL1, fun t ht => ?_⟩⟩
    have m3 := Gm.same_new ht (.tup vs)
    exact q _ _ (b1.trans (But.same m3)) (W1.same m3) (dp_tup ht dd)
end
end Toy
set_option Elab.async false
set_option linter.all false
set_option maxRecDepth 100000
set_option maxHeartbeats 4000000
namespace Toy
open PySem L2 Mine NdefX Gm Pz
section
variable {P : Program} {w : World} {K : PySem.W.Frag} {mg : Str → Option Value} {base : Heap} {file : Str}
/-- what a dict tells of locals A and variables B -/
def MInv (K : PySem.W.Frag) (H : Hp) (kvs : List (Key × V)) (A B : List Str) : Prop := ∀ x : Str, (x ∈ B → ∃ v, valV kvs (.inr x) = some v ∧ Dp K H v (Ex.var x).d) ∧ (x ∉ B → x ∈ A → ∃ v, valV kvs (.inr x) = some v ∧ Dp K H v (Ex.loc x).d) ∧ (x ∉ B → x ∉ A → valV kvs (.inr x) = none)
theorem MInv.tups {K : PySem.W.Frag} {H H' : Hp} {kvs : List (Key × V)} {A B : List Str} (t : Tups H H') (m : MInv K H kvs A B) : MInv K H' kvs A B := fun x => ⟨fun h => by
    obtain ⟨v, e, d⟩ := (m x).1 h
    exact ⟨v, e, dp_tups t _ _ (Ex.nol _) d⟩, fun h1 h2 => by
    obtain ⟨v, e, d⟩ := (m x).2.1 h1 h2
    exact ⟨v, e, dp_tups t _ _ (Ex.nol _) d⟩, (m x).2.2⟩
theorem MInv.loc {K : PySem.W.Frag} {H : Hp} {kvs : List (Key × V)} {A : List Str} {y : Str} {v : V} (m : MInv K H kvs A []) (d : Dp K H v (Ex.loc y).d) : MInv K H (putK kvs (.inr y) v) (A ++ [y]) [] := fun x => by
  have e : valV (putK kvs (.inr y) v) (.inr x) = if (Sum.inr x : Key) = .inr y then some v else valV kvs (.inr x) := valV_put kvs (.inr y) (.inr x) v
  rw [e]
  refine ⟨fun h => absurd h List.not_mem_nil, fun _ h => ?_, fun _ h => ?_⟩
  · by_cases c : x = y
    · rw [if_pos (by rw [c])]
      exact ⟨v, rfl, by rw [c]; exact d⟩
    · rw [if_neg (fun z => c (Sum.inr.inj z))]
      rcases List.mem_append.mp h with h | h
      · exact (m x).2.1 List.not_mem_nil h
      · exact absurd (List.mem_singleton.mp h) c
  · have h1 : x ∉ A := fun z => h (List.mem_append_left _ z)
    have h2 : x ≠ y := fun z => h (List.mem_append_right _ (List.mem_singleton.mpr z))
    rw [if_neg (fun z => h2 (Sum.inr.inj z))]
    exact (m x).2.2 List.not_mem_nil h1
theorem MInv.var {K : PySem.W.Frag} {H : Hp} {kvs : List (Key × V)} {A B : List Str} {y : Str} {v : V} (m : MInv K H kvs A B) (d : Dp K H v (Ex.var y).d) : MInv K H (putK kvs (.inr y) v) A (B ++ [y]) := fun x => by
  have e : valV (putK kvs (.inr y) v) (.inr x) = if (Sum.inr x : Key) = .inr y then some v else valV kvs (.inr x) := valV_put kvs (.inr y) (.inr x) v
  rw [e]
  by_cases c : x = y
  · rw [if_pos (by rw [c])]
    refine ⟨fun _ => ⟨v, rfl, by rw [c]; exact d⟩, fun h => absurd (List.mem_append_right _ (List.mem_singleton.mpr c)) h, fun h => absurd (List.mem_append_right _ (List.mem_singleton.mpr c)) h⟩
  · rw [if_neg (fun z => c (Sum.inr.inj z))]
    have em : x ∈ B ++ [y] ↔ x ∈ B := ⟨fun h => (List.mem_append.mp h).elim id fun z => absurd (List.mem_singleton.mp z) c, List.mem_append_left _⟩
    rw [em]
    exact m x
theorem Tups.dK {H : Hp} {l : Addr} {xs : List (Key × V)} {o : HO} (h : H l = some (.dK xs)) : Tups H (upd H l o) := fun b u e k => by
  rw [upd_ne]
  · exact e
  · intro z
    subst z
    rw [h] at e
    cases e
    rcases k with ⟨_, z⟩ | ⟨_, _, z⟩ <;> cases z
theorem tuple_loc {K : PySem.W.Frag} {H : Hp} {t : Addr} (k x : Str) (ht : H t = none) : Dp K (upd H t (.tup [V.str k, V.str x])) (.ref t) (.tuple [.str k, .str x]) := dp_tup ht (.cons (.str _) (.cons (.str _) .nil))
theorem ok_locals (hP : PrF P file) (T : Txt K mg file) : FnOk P w K mg base (L2.CX P w) 6 T.a_read_locals T.fd_read_locals ["words", "variables"] (spLocals T.C_Words T.C_BadText K) := by
  have G_Words_ahead : FnOk P w K mg base CX0 2 T.a_Words_ahead T.fd_Words_ahead ["self"] (spAhead T.C_Words) := ok_ahead T
  have G_Words_take : FnOk P w K mg base CX0 3 T.a_Words_take T.fd_Words_take ["self"] (spTake T.C_Words) := ok_take T
  have G_Words_name : FnOk P w K mg base (L2.CX P w) 5 T.a_Words_name T.fd_Words_name ["self", "taken"] (spName T.C_Words T.C_BadText K) := ok_name hP T
  refine T.F_read_locals.okX sc_read_locals (fun vs H Q E h => ?_) (fun cdv A outer s H vs Q E hr h => ?_)
  · obtain ⟨p, l, a, ws, i, vars, rfl, _⟩ := h
    rfl
  obtain ⟨p, l, a, ws, i, vars, rfl, W, ha, hv, q⟩ := h
  refine ⟨_, (pss_cons (ps_set (i := 2) sc_read_locals.nd rfl (Or.inl rfl) (pe_lst (pa_cons (pe_meth (pv 0) T.cl_Words T.m_Words_name G_Words_name (hr.mono (by decide)) T.b_Words_name .nil (passes_call (takes_of rfl rfl rfl rfl) (fun _ _ _ _ z => z)) (pa_cons (pv 1) pa_nil)) pa_nil)))
    (pss_cons (ps_while (passes_of rfl) (PW.pt (pw_and (pt_cmpR op_eq (pe_meth0 (pv 0) T.cl_Words T.m_Words_ahead G_Words_ahead (hr.mono (by decide)) T.b_Words_ahead .nil pass0) pe_str (nomark _)) (pw_and1 (pt_cmpR op_lt (pe_callB call_len_seq (by rfl) T.z_len (by decide +kernel) (pa_cons (pv 2) pa_nil)) (pe_glob (v := .int 6) rfl T.g_MOST_LOCALS.choose_spec ⟨_, rfl⟩) (nomark _)))))
      (pss_cons (ps_expr (pe_meth0 (pv 0) T.cl_Words T.m_Words_take G_Words_take (hr.mono (by decide)) T.b_Words_take .nil pass0))
    (pss_one (ps_expr (pe_bm PySem.F.plainAttrs_list PySem.F.slot_list_append PySem.F.type_list_append mt_append (pv 2) (pa_cons (pe_meth (pv 0) T.cl_Words T.m_Words_name G_Words_name (hr.mono (by decide)) T.b_Words_name .nil (passes_call (takes_of rfl rfl rfl rfl) (fun _ _ _ _ z => z)) (pa_cons (pe_lst (StX.pa_star (pv 1) (StX.pa_star (pv 2) pa_nil))) pa_nil)) pa_nil))))))
    (pss_one (ps_ret (pe_callTy call_tuple_of (by rfl) T.z_tuple (by decide +kernel) (pa_cons (pv 2) pa_nil)))))), ?_⟩
  obtain ⟨dx, fs, e1, e2⟩ := W.nomt (m := "name")
  refine ⟨_, rfl, p, dx, fs, rfl, e1, e2, _, rfl, p, l, ws, i, a, vars, rfl, W, .inl ha, ?_⟩
  unfold pLocals at q
  unfold Tk1
  change if nameAt ws vars i = true then _ else _
  by_cases c0 : nameAt ws vars i = true
  rotate_left
  · rw [if_neg c0] at q
    rw [if_neg c0]
    exact q
  rw [if_pos c0] at q
  rw [if_pos c0]
  intro H1 b1 W1
  refine ⟨by show 1 ≤ sizeLine; decide, fun L hL => ?_⟩
  have neL : p ≠ L := fun z => by
    obtain ⟨_, _, e, _⟩ := W1.ob
    rw [z, hL] at e
    cases e
  have neLl : l ≠ L := fun z => by
    have h1 := W1.li
    rw [z, hL] at h1
    cases h1
  have m0 := Gm.same_new hL (.lst [V.str (wd ws i)])
  generalize hR : pMore ws vars 5 [wd ws i] (i + 1) = R at q
  refine ⟨fun m σ H' => ∃ (found : List Str) (j : Nat), σ = [some (.ref p), some (.ref a), some (.ref L)] ∧ But p H1 H' ∧ WAt T.C_Words H' p l ws j ∧ H' L = some (.lst (found.map V.str)) ∧ found.length + m = 6 ∧ pMore ws vars m found j = R,
    ⟨5, [wd ws i], i + 1, rfl, But.same m0, W1.same m0, upd_same, rfl, hR⟩, ?_⟩
  rintro m σ H2 ⟨found, j, rfl, b2, W2, hL2, hm, eq⟩
  have b12 := b1.trans b2
  have ha2 : SqL K H2 a (vars.map V.str) := W.sqL b12 ha
  obtain ⟨dx2, fs2, e3, e4⟩ := W2.nomt (m := "ahead")
  refine ⟨_, rfl, p, dx2, fs2, rfl, e3, e4, p, l, ws, j, rfl, W2, rfl, _, rfl, ?_⟩
  rw [ds_str]
  have fin : pMore ws vars m found j = .ok (found, j) → ∀ t, H2 t = none → Q (.ref t) (upd H2 t (.tup (found.map V.str))) := fun hb t ht => by
    rw [← eq, hb] at q
    have m3 := Gm.same_new ht (.tup (found.map V.str))
    exact q _ _ (b12.trans (But.same m3)) (W2.same m3) (dp_tup ht (dp_strs found))
  by_cases c : wd ws j = "local"
  · rw [decide_eq_true c]
    refine ite2 (fun _ => ?_) (fun z => absurd rfl z)
    refine ⟨_, rfl, L, _, rfl, .inl (SqL.of hL2), _, _, rfl, rfl, _, rfl, ?_⟩
    by_cases c2 : m = 0
    · have hl : found.length = 6 := by omega
      have d6 : decide ((((found.map V.str).length : Nat) : Int) < 6) = false := decide_eq_false (by rw [List.length_map]; omega)
      rw [d6]
      refine ite2 (fun z => by cases z) (fun _ => ?_)
      exact ⟨_, rfl, L, _, rfl, .inl ⟨SqL.of hL2, fin (by rw [c2]; unfold pMore; rfl)⟩⟩
    · obtain ⟨n, rfl⟩ : ∃ n, m = n + 1 := ⟨m - 1, by omega⟩
      have d6 : decide ((((found.map V.str).length : Nat) : Int) < 6) = true := decide_eq_true (by rw [List.length_map]; omega)
      rw [d6]
      refine ite2 (fun _ => ?_) (fun z => absurd rfl z)
      unfold pMore at eq
      rw [if_pos c] at eq
      refine ⟨fun σ H' => ∃ (found : List Str) (j : Nat), σ = [some (.ref p), some (.ref a), some (.ref L)] ∧ But p H1 H' ∧ WAt T.C_Words H' p l ws j ∧ H' L = some (.lst (found.map V.str)) ∧ found.length + n = 6 ∧ pMore ws vars n found j = R, fun σ' H' h => ⟨n, Nat.lt_succ_self n, h⟩, ?_⟩
      have hj : j < ws.length := W2.lt_of (by rw [c]; decide +kernel)
      obtain ⟨dx3, fs3, e5, e6⟩ := W2.nomt (m := "take")
      refine ⟨_, rfl, p, dx3, fs3, rfl, e5, e6, p, l, ws, j, rfl, W2, hj, fun H3 b3 W3 => ?_⟩
      have hL3 : H3 L = some (.lst (found.map V.str)) := b3 _ _ hL2 (Ne.symm neL)
      have ha3 := W2.sqL b3 ha2
      obtain ⟨dx4, fs4, e7, e8⟩ := W3.nomt (m := "name")
      refine ⟨_, rfl, .inl ⟨rfl, _, SqL.of hL3⟩, _, rfl, p, dx4, fs4, rfl, e7, e8, _, rfl, a, _, rfl, .inr ha3, _, rfl, L, _, rfl, .inr (SqL.of hL3), ?_, fun L2 hL2n => ?_⟩
      · rw [List.length_append, List.length_append, List.length_map, List.length_map]
        exact Nat.le_trans (show vars.length + (found.length + 0) ≤ 200 by omega) (by decide)
      have m4 := Gm.same_new hL2n (.lst (vars.map V.str ++ (found.map V.str ++ [])))
      have W4 := W3.same m4
      have b4 : But p H3 _ := But.same m4
      have eL : vars.map V.str ++ (found.map V.str ++ []) = (vars ++ found).map V.str := by rw [List.append_nil, List.map_append]
      refine ⟨p, l, ws, j + 1, L2, vars ++ found, rfl, W4, .inl (SqL.of (by rw [upd_same, eL])), ?_⟩
      unfold Tk1
      change if nameAt ws (vars ++ found) (j + 1) = true then _ else _
      by_cases c3 : nameAt ws (vars ++ found) (j + 1) = true
      · rw [if_pos c3] at eq
        rw [if_pos c3]
        intro H5 b5 W5
        have b35 : But p H2 H5 := b3.trans (b4.trans b5)
        have hL5 : H5 L = some (.lst (found.map V.str)) := b35 _ _ hL2 (Ne.symm neL)
        refine ⟨L, _, _, rfl, rfl, hL5, ?_, found ++ [wd ws (j + 1)], j + 2, rfl, fun b o e nb => ?_, ?_, ?_, ?_, eq⟩
        · rw [List.length_map]
          exact Nat.lt_of_lt_of_le (show found.length < 7 by omega) (by decide)
        · by_cases hb : b = L
          · rw [hb, hL] at e
            cases e
          · rw [upd_ne hb]
            exact (b2.trans b35) b o e nb
        · obtain ⟨dx9, fs9, e9, rest⟩ := W5.ob
          exact ⟨⟨dx9, fs9, by rw [upd_ne neL]; exact e9, rest⟩, by rw [upd_ne neLl]; exact W5.li, W5.le, W5.sz, W5.wl⟩
        · rw [upd_same, List.map_append]
          rfl
        · rw [List.length_append]
          show found.length + 1 + n = 6
          omega
      · rw [if_neg c3] at eq
        rw [if_neg c3]
        rw [← eq] at q
        exact Ref.later q (b12.trans (b3.trans b4))
  · rw [decide_eq_false c]
    refine ite2 (fun z => by cases z) (fun _ => ?_)
    refine ite2 (fun z => by cases z) (fun _ => ?_)
    refine ⟨_, rfl, L, _, rfl, .inl ⟨SqL.of hL2, fin ?_⟩⟩
    cases m with
    | zero => unfold pMore; rfl
    | succ n => unfold pMore; rw [if_neg c]
theorem ok_reader (T : Txt K mg file) (hF : FormsAt K w T.a_FORMS) : FnOk P w K mg base CX0 2 T.a_StatementReader_init T.fd_StatementReader_init ["self", "words", "names"] (spReader T.C_StatementReader K) := by
  have G_StatementReader_can_follow : FnOk P w K mg base CX0 1 T.a_StatementReader_can_follow T.fd_StatementReader_can_follow ["self", "kind"] (spCanFollow T.C_StatementReader K) := ok_can_follow T
  refine T.F_StatementReader_init.ok sc_StatementReader_init (fun vs H Q E h => ?_) (fun cdv A outer s H vs Q E hr h => ?_)
  · obtain ⟨r, p, nd, dx, sc, rfl, _⟩ := h
    rfl
  obtain ⟨r, p, nd, dx, sc, rfl, hrr, N, hv, hl, q⟩ := h
  refine ⟨_, (pss_cons (ps_fld (pv 0) (pv 1) rfl)
    (pss_cons (ps_fld (pv 0) (pv 2) rfl)
    (pss_cons (ps_fld (pv 0) (pe_dc2 (own := [("kind", 3), ("name", 4)]) (vs1 := [4]) (g := gName 3) (g1 := gName 4) rfl sc_StatementReader_init.nd (pi_tup (pe_tup (pa_cons pe_str (pa_cons pe_str pa_nil)))) (blkOk_by (own := [("kind", 3), ("name", 4)]) (N := ["self", "words", "names", "kind", "name", "word"]) (sc := defScope s_StatementReader_init) (by decide +kernel)) (by decide) (fun _ _ _ _ _ => pg_name (i := 3) sc_StatementReader_init.nd rfl (Or.inl rfl)) (fun _ _ _ _ _ => (pi_seqK K rfl (pe_dget (hu_of hr) (pv 2) (pv 3) (fun _ _ => rfl)))) (fun _ _ _ _ _ => pg_name (i := 4) sc_StatementReader_init.nd rfl (Or.inl rfl)) (fun _ _ _ _ _ => (pv 4)) (fun _ _ _ _ _ => (pe_tup (pa_cons (pv 3) (pa_cons (pv 4) pa_nil))))) rfl)
    (pss_one (ps_fld (pv 0) (pe_lc (own := [("word", 5)]) (g := gName 5) rfl sc_StatementReader_init.nd (pi_wdict (pe_glob (v := .ref T.a_FORMS) rfl T.g_FORMS rfl)) (blkOk_by (own := [("word", 5)]) (N := ["self", "words", "names", "kind", "name", "word"]) (sc := defScope s_StatementReader_init) (by decide +kernel)) (fun _ _ _ _ _ => pg_name (i := 5) sc_StatementReader_init.nd rfl (Or.inl rfl)) (fun _ _ _ _ _ => pts_one (pt_val (pe_callB (cr_allK K rfl rfl) (by rfl) T.z_all (by decide +kernel) (pa_cons (pe_lc (own := [("kind", 3)]) (g := gName 3) (tt := tYes) rfl sc_StatementReader_init.nd (pi_tupK K rfl (pe_ix (ixdK K w rfl rfl) (pe_glob (v := .ref T.a_FORMS) rfl T.g_FORMS rfl) (pv 5) (fun _ _ => rfl))) (blkOk_by (own := [("kind", 3)]) (N := ["self", "words", "names", "kind", "name", "word"]) (by rfl)) (fun _ _ _ _ _ => pg_name (i := 3) sc_StatementReader_init.nd rfl (Or.inl rfl)) (fun _ _ _ _ _ => pts_nil) (fun _ _ _ _ _ => (pe_meth (pv 0) T.cl_StatementReader T.m_StatementReader_can_follow G_StatementReader_can_follow (hr.mono (by decide)) T.b_StatementReader_can_follow .nil pass0 (pa_cons (pv 3) pa_nil)))) pa_nil)))) (fun _ _ _ _ _ => (pv 5))) rfl))))), ?_⟩
  refine ⟨_, rfl, _, rfl, r, _, dx, _, rfl, hrr, T.cl_StatementReader, T.na_StatementReader_words, (by show 0 < 1000; decide), ?_⟩
  refine ⟨_, rfl, _, rfl, r, _, dx, _, rfl, upd_same, T.cl_StatementReader, T.na_StatementReader_names, (by show 1 < 1000; decide), ?_⟩
  generalize hH2 : upd (upd H r (.ins T.C_StatementReader dx (putF "words" (V.ref p) []))) r (.ins T.C_StatementReader dx (putF "names" (V.ref nd) (putF "words" (V.ref p) []))) = H2
  have ob2 : H2 r = some (.ins T.C_StatementReader dx (putF "names" (V.ref nd) (putF "words" (V.ref p) []))) := by rw [← hH2, upd_same]
  have b2 : But r H H2 := fun b o e n => by rw [← hH2, upd_ne n, upd_ne n]; exact e
  have nl : ∀ {a : Addr} {o : HO}, H a = some o → (∀ C dx fs, o ≠ .ins C dx fs) → a ≠ r := fun {a o} e n z => by
    rw [z, hrr] at e
    exact n _ _ _ (Option.some.inj e).symm
  have sqL2 : ∀ {H' : Hp} {a : Addr} {xs : List V}, But r H H' → SqL K H a xs → SqL K H' a xs := fun {H' a xs} b e => by
    rcases e with (e | ⟨o, e⟩) | e
    · exact .inl (.inl (b _ _ e (nl e fun _ _ _ z => by cases z)))
    · exact .inl (.inr ⟨o, b _ _ e (nl e fun _ _ _ z => by cases z)⟩)
    · exact .inr e
  have tup2 : ∀ {H' : Hp}, But r H H' → Tups H H' := fun {H'} b => b.tups hrr
  have N2 : ∀ {H' : Hp}, But r H H' → Names K H' nd sc := fun {H'} b => by
    obtain ⟨kvs, e, f⟩ := N
    refine ⟨kvs, b _ _ e (nl e fun _ _ _ z => by cases z), fun k => ?_⟩
    have z := f k
    split at z
    · obtain ⟨a, e1, g⟩ := z
      exact ⟨a, e1, g.imp (fun g => sqL2 b g) fun g => ⟨g.1, sqT_tups (tup2 b) g.2⟩⟩
    · exact z
  have lkn : (putF "names" (V.ref nd) (putF "words" (V.ref p) [])).lookup ("names" : Str) = some (.ref nd) := by rw [lookup_putF, if_pos rfl]
  -- meanings
  refine ⟨by show 2 ≤ sizeLine; decide, fun t0 ht0 => ⟨t0, rfl, ⟨_, SqT.of upd_same⟩, fun D hD => ?_⟩⟩
  generalize hHb : upd H2 t0 (.tup [V.str "local", V.str "variable"]) = Hb at hD
  have bb : ∀ H', Same Hb H' → But r H H' := fun H' m => b2.trans ((But.same (Gm.same_new ht0 (.tup [V.str "local", V.str "variable"]))).trans (by rw [hHb]; exact But.same m))
  have st0 : ∀ H', Same Hb H' → SqT K H' t0 [V.str "local", V.str "variable"] := fun H' m => sqT_mono m (SqT.of (by rw [← hHb, upd_same]))
  refine dc2_it walk_tup (fun i H' => Same Hb H' ∧ ∃ kvs, H' D = some (.dK kvs) ∧ kvs.length ≤ 100 * i ∧ MInv K H' kvs (if i = 0 then [] else sc.locs) (if i = 2 then sc.vars else []))
    ⟨Gm.same_new hD _, [], upd_same, Nat.le_refl _, fun x => ⟨fun h => absurd h List.not_mem_nil, fun _ h => absurd h List.not_mem_nil, fun _ _ => rfl⟩⟩ (fun i H' _ h => st0 H' h.1) ?_ ?_
  · rintro i x H3 H4 hi ⟨m3, kvs, e1, e2, e3⟩ ⟨rfl, ex⟩
    refine ⟨rfl, ?_⟩
    have b3 := bb _ m3
    match i, hi with
    | 0, _ =>
      obtain rfl : V.str "local" = x := Option.some.inj ex
      obtain ⟨kv, a, g1, g2, g3⟩ := N.get (k := "local") (xs := sc.locs) rfl
      have g1' := b3 _ _ g1 (nl g1 fun _ _ _ z => by cases z)
      rcases g3 with g3 | ⟨_, g3⟩
      · refine .inl ⟨_, rfl, _, rfl, nd, _, rfl, .inl ⟨kv, .inr _, .inl g1', rfl, g2.symm⟩, a, rfl, ⟨_, sqL2 b3 g3⟩, ?_⟩
        refine dc1_it walk_list (fun j H' => Same Hb H' ∧ ∃ kvs, H' D = some (.dK kvs) ∧ kvs.length ≤ 100 * 0 + j ∧ MInv K H' kvs (sc.locs.take j) []) ⟨m3, kvs, e1, e2, e3⟩ (fun j H' _ h => sqL2 (bb H' h.1) g3) ?_ ?_
        · rintro j y H5 H6 hj ⟨m5, kvs5, e5, l5, M5⟩ ⟨rfl, ey⟩
          refine ⟨rfl, ?_⟩
          rw [List.getElem?_map] at ey
          obtain ⟨n, en, rfl⟩ := Option.map_eq_some_iff.mp ey
          refine ⟨_, rfl, _, rfl, _, rfl, by show 2 ≤ sizeLine; decide, fun t ht => ?_⟩
          have m6 := Gm.same_new ht (.tup [V.str "local", V.str n])
          have e6 := m6 _ _ e5
          have hj' : j < sc.locs.length := by rw [← List.length_map (f := V.str)]; exact hj
          have lp := length_putK kvs5 (.inr n) (V.ref t)
          refine ⟨kvs5, .inr n, rfl, e6, Nat.lt_of_le_of_lt (show kvs5.length ≤ 300 by omega) (by decide), (fun b o z => ?_), _, upd_same, by omega, ?_⟩
          · rw [upd_ne (ne_of_none z hD)]
            exact m6 _ _ (m5 _ _ z)
          · rw [take_more en]
            exact (MInv.loc (M5.tups (Tups.of m6)) (tuple_loc _ _ ht)).tups (Tups.dK e6)
        · rintro H5 ⟨m5, kvs5, e5, l5, M5⟩
          rw [List.length_map] at l5 M5
          rw [List.take_length] at M5
          exact ⟨m5, kvs5, e5, by omega, M5⟩
      · refine .inr ⟨_, rfl, _, rfl, nd, _, rfl, .inl ⟨kv, .inr _, .inl g1', rfl, g2.symm⟩, a, rfl, ⟨_, sqT_tups (tup2 b3) g3⟩, ?_⟩
        refine dc1_it walk_tup (fun j H' => Same Hb H' ∧ ∃ kvs, H' D = some (.dK kvs) ∧ kvs.length ≤ 100 * 0 + j ∧ MInv K H' kvs (sc.locs.take j) []) ⟨m3, kvs, e1, e2, e3⟩ (fun j H' _ h => sqT_tups (tup2 (bb H' h.1)) g3) ?_ ?_
        · rintro j y H5 H6 hj ⟨m5, kvs5, e5, l5, M5⟩ ⟨rfl, ey⟩
          refine ⟨rfl, ?_⟩
          rw [List.getElem?_map] at ey
          obtain ⟨n, en, rfl⟩ := Option.map_eq_some_iff.mp ey
          refine ⟨_, rfl, _, rfl, _, rfl, by show 2 ≤ sizeLine; decide, fun t ht => ?_⟩
          have m6 := Gm.same_new ht (.tup [V.str "local", V.str n])
          have e6 := m6 _ _ e5
          have hj' : j < sc.locs.length := by rw [← List.length_map (f := V.str)]; exact hj
          have lp := length_putK kvs5 (.inr n) (V.ref t)
          refine ⟨kvs5, .inr n, rfl, e6, Nat.lt_of_le_of_lt (show kvs5.length ≤ 300 by omega) (by decide), (fun b o z => ?_), _, upd_same, by omega, ?_⟩
          · rw [upd_ne (ne_of_none z hD)]
            exact m6 _ _ (m5 _ _ z)
          · rw [take_more en]
            exact (MInv.loc (M5.tups (Tups.of m6)) (tuple_loc _ _ ht)).tups (Tups.dK e6)
        · rintro H5 ⟨m5, kvs5, e5, l5, M5⟩
          rw [List.length_map] at l5 M5
          rw [List.take_length] at M5
          exact ⟨m5, kvs5, e5, by omega, M5⟩
    | 1, _ =>
      obtain rfl : V.str "variable" = x := Option.some.inj ex
      obtain ⟨kv, a, g1, g2, g3⟩ := N.get (k := "variable") (xs := sc.vars) rfl
      have g1' := b3 _ _ g1 (nl g1 fun _ _ _ z => by cases z)
      have g3 : SqL K H a (sc.vars.map V.str) := g3.elim id fun z => absurd z.1 (by decide)
      refine .inl ⟨_, rfl, _, rfl, nd, _, rfl, .inl ⟨kv, .inr _, .inl g1', rfl, g2.symm⟩, a, rfl, ⟨_, sqL2 b3 g3⟩, ?_⟩
      refine dc1_it walk_list (fun j H' => Same Hb H' ∧ ∃ kvs, H' D = some (.dK kvs) ∧ kvs.length ≤ 100 * 1 + j ∧ MInv K H' kvs sc.locs (sc.vars.take j)) ⟨m3, kvs, e1, e2, e3⟩ (fun j H' _ h => sqL2 (bb H' h.1) g3) ?_ ?_
      · rintro j y H5 H6 hj ⟨m5, kvs5, e5, l5, M5⟩ ⟨rfl, ey⟩
        refine ⟨rfl, ?_⟩
        rw [List.getElem?_map] at ey
        obtain ⟨n, en, rfl⟩ := Option.map_eq_some_iff.mp ey
        refine ⟨_, rfl, _, rfl, _, rfl, by show 2 ≤ sizeLine; decide, fun t ht => ?_⟩
        have m6 := Gm.same_new ht (.tup [V.str "variable", V.str n])
        have e6 := m6 _ _ e5
        have hj' : j < sc.vars.length := by rw [← List.length_map (f := V.str)]; exact hj
        have lp := length_putK kvs5 (.inr n) (V.ref t)
        refine ⟨kvs5, .inr n, rfl, e6, Nat.lt_of_le_of_lt (show kvs5.length ≤ 300 by omega) (by decide), (fun b o z => ?_), _, upd_same, by omega, ?_⟩
        · rw [upd_ne (ne_of_none z hD)]
          exact m6 _ _ (m5 _ _ z)
        · rw [take_more en]
          exact (MInv.var (M5.tups (Tups.of m6)) (tuple_loc _ _ ht)).tups (Tups.dK e6)
      · rintro H5 ⟨m5, kvs5, e5, l5, M5⟩
        rw [List.length_map] at l5 M5
        rw [List.take_length] at M5
        exact ⟨m5, kvs5, e5, by omega, M5⟩
    | i + 2, h => exact absurd h (by show ¬ i + 2 < 2; omega)
  · rintro H3 ⟨m3, kvs, e1, e2, M3⟩
    have M3 : MInv K H3 kvs sc.locs sc.vars := M3
    have b3 := bb _ m3
    have hr3 : H3 r = some (.ins T.C_StatementReader dx (putF "names" (V.ref nd) (putF "words" (V.ref p) []))) := m3 _ _ (by rw [← hHb, upd_ne (ne_of_none ob2 ht0)]; exact ob2)
    have Dr : D ≠ r := fun z => by
      rw [z, hr3] at e1
      cases e1
    refine ⟨_, rfl, r, _, dx, _, rfl, hr3, T.cl_StatementReader, T.na_StatementReader_meanings, (by show 2 < 1000; decide), ?_⟩
    generalize hH4 : upd H3 r (.ins T.C_StatementReader dx (putF "meanings" (V.ref D) (putF "names" (V.ref nd) (putF "words" (V.ref p) [])))) = H4
    have hr4 : H4 r = some (.ins T.C_StatementReader dx (putF "meanings" (V.ref D) (putF "names" (V.ref nd) (putF "words" (V.ref p) [])))) := by rw [← hH4, upd_same]
    have b4' : But r H3 H4 := fun b o e n => by rw [← hH4, upd_ne n]; exact e
    have b4 : But r H H4 := b3.trans b4'
    have e4 : H4 D = some (.dK kvs) := b4' _ _ e1 Dr
    have M4 : MInv K H4 kvs sc.locs sc.vars := M3.tups (b4'.tups hr3)
    refine ⟨T.a_FORMS, words, rfl, hF.wd, fun D2 hD2 => ?_⟩
    refine lc_it walk_w (fun t H' => Same H4 H' ∧ H' D2 = some (.lst (((words.take t).filter fun w => (formOf w).all (canFollow sc)).map V.str))) ⟨Gm.same_new hD2 _, upd_same⟩ (fun _ _ _ _ => trivial) ?_ ?_
    · rintro t x H5 H6 ht ⟨m5, e5⟩ ⟨rfl, ex⟩
      refine ⟨rfl, ?_⟩
      rw [List.getElem?_map] at ex
      obtain ⟨w0, ew, rfl⟩ := Option.map_eq_some_iff.mp ex
      have hw : w0 ∈ words := List.mem_of_getElem? ew
      obtain ⟨ka, kd, kt⟩ := hF.get w0 hw
      have lw : (formOf w0).length ≤ 10 := (by decide +kernel : ∀ w ∈ words, (formOf w).length ≤ 10) w0 hw
      refine ⟨_, rfl, T.a_FORMS, _, _, rfl, rfl, kd, ka, rfl, ⟨_, kt _⟩, fun D3 hD3 => ?_⟩
      refine lc_it walk_tup (fun t' H' => Same H6 H' ∧ H' D3 = some (.lst (((formOf w0).take t').map fun k => V.bl (canFollow sc k)))) ⟨Gm.same_new hD3 _, upd_same⟩ (fun _ H' _ _ => kt H') ?_ ?_
      · rintro t' y H7 H8 ht' ⟨m7, e7⟩ ⟨rfl, ey⟩
        refine ⟨rfl, ?_⟩
        rw [List.getElem?_map] at ey
        obtain ⟨kd0, ek, rfl⟩ := Option.map_eq_some_iff.mp ey
        have hr7 := m7 _ _ (m5 _ _ hr4)
        have b7 : But r H H8 := b4.trans (But.same (m5.trans m7))
        refine ⟨_, rfl, r, dx, _, rfl, hr7, ?_, _, rfl, r, dx, nd, _, sc, kd0, rfl, hr7, ?_, N2 b7, _, e7, ?_, (fun b o z => ?_), ?_⟩
        · rw [lookup_putF, if_neg (by decide), lookup_putF, if_neg (by decide), lookup_putF, if_neg (by decide)]
          rfl
        · rw [lookup_putF, if_neg (by decide), lookup_putF, if_pos rfl]
        · rw [List.length_map, List.length_take]
          exact Nat.lt_of_le_of_lt (Nat.min_le_right _ _) (Nat.lt_of_le_of_lt lw (by decide))
        · rw [upd_ne (ne_of_none z hD3)]
          exact m7 _ _ z
        · rw [upd_same, take_more ek, List.map_append]
          rfl
      · rintro H7 ⟨m7, e7⟩
        have e7' : H7 D3 = some (.lst (((formOf w0).map (canFollow sc)).map V.bl)) := by
          rw [e7, List.length_map, List.take_length, List.map_map]
          rfl
        refine ⟨D3, _, rfl, SqL.of e7', ?_⟩
        rw [all_map]
        refine ⟨_, rfl, ?_⟩
        have e8 := m7 _ _ e5
        refine ite2 (fun c => ?_) (fun c => ?_)
        · refine ⟨_, rfl, _, e8, ?_, (fun b o z => ?_), ?_⟩
          · rw [List.length_map]
            refine Nat.lt_of_le_of_lt (List.length_filter_le _ _) ?_
            rw [List.length_take]
            exact Nat.lt_of_le_of_lt (Nat.min_le_right _ _) (by decide)
          · rw [upd_ne (ne_of_none z hD2)]
            exact m7 _ _ (m5 _ _ z)
          · rw [upd_same, take_more ew, List.filter_append, List.map_append]
            have : [w0].filter (fun w => (formOf w).all (canFollow sc)) = [w0] := List.filter_cons_of_pos (p := fun w => (formOf w).all (canFollow sc)) c
            rw [this]
            rfl
        · refine ⟨m5.trans m7, ?_⟩
          rw [e8, take_more ew, List.filter_append]
          have : [w0].filter (fun w => (formOf w).all (canFollow sc)) = [] := List.filter_cons_of_neg (p := fun w => (formOf w).all (canFollow sc)) c
          rw [this, List.append_nil]
    · rintro H5 ⟨m5, e5⟩
      have hr5 := m5 _ _ hr4
      have D2r : D2 ≠ r := fun z => by
        rw [z, hr4] at hD2
        cases hD2
      refine ⟨_, rfl, r, _, dx, _, rfl, hr5, T.cl_StatementReader, T.na_StatementReader_starts, (by show 3 < 1000; decide), ?_⟩
      have b6' : But r H5 (upd H5 r (.ins T.C_StatementReader dx (putF "starts" (V.ref D2) (putF "meanings" (V.ref D) (putF "names" (V.ref nd) (putF "words" (V.ref p) [])))))) := But.upd
      have b6 := (b4.trans (But.same m5)).trans b6'
      have M6 := (M4.tups (Tups.of m5)).tups (b6'.tups hr5)
      refine q _ b6 ⟨⟨dx, _, nd, D, D2, upd_same, ?_, ?_, ?_, ?_, fun m h1 h2 h3 h4 => ?_, N2 b6, ⟨kvs, ?_, M6⟩, ?_⟩⟩
      · rw [lookup_putF, if_neg (by decide), lookup_putF, if_neg (by decide), lookup_putF, if_neg (by decide), lookup_putF, if_pos rfl]
      · rw [lookup_putF, if_neg (by decide), lookup_putF, if_neg (by decide), lookup_putF, if_pos rfl]
      · rw [lookup_putF, if_neg (by decide), lookup_putF, if_pos rfl]
      · rw [lookup_putF, if_pos rfl]
      · rw [lookup_putF, if_neg h4, lookup_putF, if_neg h3, lookup_putF, if_neg h2, lookup_putF, if_neg h1]
        rfl
      · rw [upd_ne Dr]
        exact m5 _ _ e4
      · refine SqL.of ?_
        rw [upd_ne D2r, e5]
        rfl
end
end Toy
set_option Elab.async false
set_option linter.all false
set_option maxRecDepth 100000
set_option maxHeartbeats 4000000
namespace Toy
open PySem L2 Mine NdefX Gm Pz
section
variable {P : Program} {w : World} {K : PySem.W.Frag} {mg : Str → Option Value} {base : Heap} {file : Str}
theorem ok_proc (hP : PrF P file) (T : Txt K mg file) (hF : FormsAt K w T.a_FORMS) : FnOk P w K mg base (L2.CX P w) 36 T.a_read_proc T.fd_read_proc ["words", "names", "taken"] (spProc T.C_Words T.C_BadText K) := by
  have G_Words_name : FnOk P w K mg base (L2.CX P w) 5 T.a_Words_name T.fd_Words_name ["self", "taken"] (spName T.C_Words T.C_BadText K) := ok_name hP T
  have G_Words_number : FnOk P w K mg base (L2.CX P w) 5 T.a_Words_number T.fd_Words_number ["self", "least", "greatest"] (spNumber T.C_Words T.C_BadText) := ok_number hP T
  have G_Words_one_of : FnOk P w K mg base (L2.CX P w) 5 T.a_Words_one_of T.fd_Words_one_of ["self", "choices"] (spOneOf T.C_Words T.C_BadText K) := ok_one_of hP T
  have G_read_locals : FnOk P w K mg base (L2.CX P w) 6 T.a_read_locals T.fd_read_locals ["words", "variables"] (spLocals T.C_Words T.C_BadText K) := ok_locals hP T
  have G_StatementReader_init : FnOk P w K mg base CX0 2 T.a_StatementReader_init T.fd_StatementReader_init ["self", "words", "names"] (spReader T.C_StatementReader K) := ok_reader T hF
  have G_StatementReader_block : FnOk P w K mg base (L2.CX P w) 35 T.a_StatementReader_block T.fd_StatementReader_block ["self", "depth"] (spBlock T.C_StatementReader T.C_Words T.C_BadText K 6) := ok_block hP T hF 6
  have G_StatementReader_expression : FnOk P w K mg base (L2.CX P w) 14 T.a_StatementReader_expression T.fd_StatementReader_expression ["self"] (spExprM T.C_StatementReader T.C_Words T.C_BadText K) := ok_expression hP T
  refine T.F_read_proc.okX sc_read_proc (fun vs H Q E h => ?_) (fun cdv A outer s H vs Q E hr h => ?_)
  · obtain ⟨p, l, nd, t, ws, i, c, found, rfl, _⟩ := h
    rfl
  obtain ⟨p, l, nd, t, ws, i, c, found, rfl, W, hc, co, ht, q⟩ := h
  refine ⟨_, (pss_cons (ps_set (i := 3) sc_read_proc.nd rfl (Or.inl rfl) (pe_meth (pv 0) T.cl_Words T.m_Words_name G_Words_name (hr.mono (by decide)) T.b_Words_name .nil (passes_call (takes_of rfl rfl rfl rfl) (fun _ _ _ _ z => z)) (pa_cons (pv 2) pa_nil)))
    (pss_cons (ps_set (i := 4) sc_read_proc.nd rfl (Or.inl rfl) (pe_meth (pv 0) T.cl_Words T.m_Words_number G_Words_number (hr.mono (by decide)) T.b_Words_number .nil (passes_call (takes_of rfl rfl rfl rfl) (fun _ _ _ _ z => z)) (pa_cons pe_int (pa_cons (pe_glob (v := .int 64) rfl T.g_GREATEST_COUNT.choose_spec ⟨_, rfl⟩) pa_nil))))
    (pss_cons (ps_set (i := 5) sc_read_proc.nd rfl (Or.inl rfl) (pe_meth (pv 0) T.cl_Words T.m_Words_number G_Words_number (hr.mono (by decide)) T.b_Words_number .nil (passes_call (takes_of rfl rfl rfl rfl) (fun _ _ _ _ z => z)) (pa_cons pe_int (pa_cons (pe_glob (v := .int 64) rfl T.g_GREATEST_COUNT.choose_spec ⟨_, rfl⟩) pa_nil))))
    (pss_cons (ps_set (i := 6) sc_read_proc.nd rfl (Or.inl rfl) (pe_call G_read_locals (hr.mono (by decide)) rfl T.g_read_locals T.k_read_locals T.b_read_locals .nil (passes_call (takes_of rfl rfl rfl rfl) (fun _ _ _ _ z => z)) (pa_cons (pv 0) (pa_cons (pe_dget (hu_of hr) (pv 1) pe_str (fun _ _ => rfl)) pa_nil))))
    (pss_cons (ps_set (i := 7) sc_read_proc.nd rfl (Or.inl rfl) (pe_make T.mk_StatementReader G_StatementReader_init (hr.mono (by decide)) rfl T.g_StatementReader T.b_StatementReader_init .nil pass0 (pa_cons (pv 0) (pa_cons (pe_starD (pv 1) pe_str (pv 6)) pa_nil))))
    (pss_cons (ps_set (i := 8) sc_read_proc.nd rfl (Or.inl rfl) (pe_meth0 (pv 7) T.cl_StatementReader T.m_StatementReader_block G_StatementReader_block (hr.mono (by decide)) T.db0_StatementReader_block T.dv0_StatementReader_block (passes_call (takes_of rfl rfl rfl rfl) (fun _ _ _ _ z => z))))
    (pss_cons (ps_expr (pe_meth (pv 0) T.cl_Words T.m_Words_one_of G_Words_one_of (hr.mono (by decide)) T.b_Words_one_of .nil (passes_call (takes_of rfl rfl rfl rfl) (fun _ _ _ _ z => z)) (pa_cons (pe_tup (pa_cons pe_str pa_nil)) pa_nil)))
    (pss_cons (ps_set (i := 9) sc_read_proc.nd rfl (Or.inl rfl) (pe_meth0 (pv 7) T.cl_StatementReader T.m_StatementReader_expression G_StatementReader_expression (hr.mono (by decide)) T.b_StatementReader_expression .nil (passes_call (takes_of rfl rfl rfl rfl) (fun _ _ _ _ z => z))))
    (pss_cons (ps_expr (pe_meth (pv 0) T.cl_Words T.m_Words_one_of G_Words_one_of (hr.mono (by decide)) T.b_Words_one_of .nil (passes_call (takes_of rfl rfl rfl rfl) (fun _ _ _ _ z => z)) (pa_cons (pe_tup (pa_cons pe_str pa_nil)) pa_nil)))
    (pss_one (ps_ret (pe_tup (pa_cons (pv 3) (pa_cons (pv 4) (pa_cons (pv 5) (pa_cons (pv 6) (pa_cons (pv 8) (pa_cons (pv 9) pa_nil)))))))))))))))))), ?_⟩
  unfold pProc at q
  obtain ⟨dx, fs, e1, e2⟩ := W.nomt (m := "name")
  refine ⟨_, rfl, p, dx, fs, rfl, e1, e2, _, rfl, p, l, ws, i, t, _, rfl, W, .inl ht, ?_⟩
  unfold Tk1
  change if nameAt ws (found.map (·.name)) i = true then _ else _
  by_cases c1 : nameAt ws (found.map (·.name)) i = true
  rotate_left
  · rw [if_neg c1] at q
    rw [if_neg c1]
    exact q
  rw [if_pos c1] at q
  rw [if_pos c1]
  intro H1 b1 W1
  obtain ⟨dx1, fs1, e3, e4⟩ := W1.nomt (m := "number")
  refine ⟨_, rfl, p, dx1, fs1, rfl, e3, e4, p, l, ws, i + 1, 1, 64, rfl, W1, ?_⟩
  unfold Tk1
  change if numAt ws 1 64 (i + 1) = true then _ else _
  by_cases c2 : numAt ws 1 64 (i + 1) = true
  rotate_left
  · rw [if_neg c2] at q
    rw [if_neg c2]
    exact Ref.later q b1
  rw [if_pos c2] at q
  rw [if_pos c2]
  intro H2 b2 W2
  obtain ⟨dx2, fs2, e5, e6⟩ := W2.nomt (m := "number")
  refine ⟨_, rfl, p, dx2, fs2, rfl, e5, e6, p, l, ws, i + 2, 1, 64, rfl, W2, ?_⟩
  have b02 := b1.trans b2
  unfold Tk1
  change if numAt ws 1 64 (i + 2) = true then _ else _
  by_cases c3 : numAt ws 1 64 (i + 2) = true
  rotate_left
  · rw [if_neg c3] at q
    rw [if_neg c3]
    exact Ref.later q b02
  rw [if_pos c3] at q
  rw [if_pos c3]
  intro H3 b3 W3
  have b03 := b02.trans b3
  obtain ⟨a, b, d, e, hnd, ha, hb, hd, he⟩ := hc
  have kp : ∀ {H' : Hp}, But p H H' → H' nd = some (.dK [(.inr "variable", .ref a), (.inr "table", .ref b), (.inr "lots", .ref d), (.inr "asked", .ref e)]) := fun {H'} bb => bb _ _ hnd (W.other hnd fun _ _ _ z => by cases z)
  refine ⟨_, rfl, _, rfl, nd, _, rfl, .inl ⟨_, .inr "variable", .inl (kp b03), rfl, rfl⟩, p, l, a, ws, i + 3, c.vars, rfl, W3, W.sqL b03 ha, co.vl, ?_⟩
  cases x1 : pLocals ws c.vars (i + 3) with
  | error j =>
    rw [x1] at q
    exact Ref.later q b03
  | ok y =>
    obtain ⟨locs, j⟩ := y
    rw [x1] at q
    dsimp only at q
    obtain ⟨lne, llen⟩ := locals_ok x1
    intro v4 H4 b4 W4 d4
    have b04 := b03.trans b4
    unfold strD at d4
    cases d4 with
    | @tup a4 vs4 ds4 hs4 ha4 =>
    have evs : vs4 = locs.map V.str := by
      have all : ∀ (xs : List Str) (vs : List V), DpAll K H4 vs (xs.map PyData.str) → vs = xs.map V.str := by
        intro xs
        induction xs with
        | nil => intro vs h; cases h; rfl
        | cons x xs ih =>
          intro vs h
          cases h with
          | cons h1 h2 =>
            cases h1
            rw [ih _ h2]
            rfl
      exact all _ _ ha4
    subst evs
    refine ⟨_, rfl, fun nd2 hnd2 => ⟨_, rfl, nd, kv4 (.ref a) (.ref b) (.ref d) (.ref e), rfl, ?_, ?_, upd_same, fun e2 he2 => ⟨_, rfl, .inr "local", kv4 (.ref a) (.ref b) (.ref d) (.ref e), rfl, upd_same, ?_, ?_, ?_⟩⟩⟩
    · exact fun z => by rw [← z, kp b04] at hnd2; cases hnd2
    · rw [upd_ne (fun z => by rw [← z, kp b04] at hnd2; cases hnd2)]
      exact kp b04
    · rw [upd_ne (fun z => by rw [← z, upd_same] at he2; cases he2), upd_same]
      exact congrArg (fun x => some (HO.dK x)) (merge4 _ _ _ _)
    · show 4 < 1000
      decide
    intro r dxr hr0 hdxr ner
    have nd2p : nd2 ≠ p := fun z => by
      obtain ⟨_, _, e9, _⟩ := W4.ob
      rw [z, e9] at hnd2
      cases hnd2
    have he2' : H4 e2 = none := by
      by_cases z : e2 = nd2
      · rw [z]; exact hnd2
      · rw [upd_ne z] at he2
        exact he2
    generalize hH5 : upd (upd (upd (upd (upd H4 nd2 (.dK [])) nd2 (.dK (mergeK [] (kv4 (.ref a) (.ref b) (.ref d) (.ref e))))) e2 (.dK [])) e2 (.dK [((.inr "local" : Key), V.ref a4)])) nd2 (.dK (putK (kv4 (.ref a) (.ref b) (.ref d) (.ref e)) (.inr "local") (V.ref a4))) = H5 at hr0 hdxr ⊢
    have m5 : Same H4 H5 := fun x o ex => by
      rw [← hH5, upd_ne (ne_of_none ex hnd2), upd_ne (ne_of_none ex he2'), upd_ne (ne_of_none ex he2'), upd_ne (ne_of_none ex hnd2), upd_ne (ne_of_none ex hnd2)]
      exact ex
    have e5 : H5 nd2 = some (.dK [(.inr "variable", .ref a), (.inr "table", .ref b), (.inr "lots", .ref d), (.inr "asked", .ref e), (.inr "local", .ref a4)]) := by
      rw [← hH5, upd_same]
      exact congrArg (fun x => some (HO.dK x)) (put5 _ _ _ _ _)
    have m6 : Same H5 (upd (upd H5 dxr (.own r)) r (.ins T.C_StatementReader dxr [])) := fun x o ex => by
      rw [upd_ne (ne_of_none ex hr0), upd_ne (ne_of_none ex hdxr)]
      exact ex
    have b46 : But p H4 _ := (But.same m5).trans (But.same m6)
    have b06 := b04.trans b46
    have N6 : Names K (upd (upd H5 dxr (.own r)) r (.ins T.C_StatementReader dxr [])) nd2 (c.sc locs) := names_ctx (m6 _ _ e5) (W.sqL b06 ha) (W.sqL b06 hb) (W.sqL b06 hd) (W.sqL b06 he) (W4.sqT b46 hs4)
    have na : NoA (c.sc locs) := ⟨co.v, lne, co.t, co.o, co.a⟩
    refine ⟨r, p, nd2, dxr, c.sc locs, rfl, upd_same, N6, co.vl, Nat.le_trans llen (by decide), fun H7 b7 R7 => ⟨rfl, ?_⟩⟩
    have b57 : But p H5 H7 := fun x o ex nx => b7 _ _ (m6 _ _ ex) (ne_of_none ex hr0)
    have b47 : But p H4 H7 := (But.same m5).trans b57
    have W7 : WAt T.C_Words H7 p l ws j := by
      have W6 := (W4.same m5).same m6
      obtain ⟨dx9, fs9, e9, rest⟩ := W6.ob
      have rp : p ≠ r := ne_of_none ((W4.same m5).ob.choose_spec.choose_spec.1) hr0
      refine ⟨⟨dx9, fs9, b7 _ _ e9 rp, rest⟩, b7 _ _ W6.li (ne_of_none (W4.same m5).li hr0), W6.le, W6.sz, W6.wl⟩
    have wk : Work T.C_StatementReader T.C_Words K H7 r p l ws j (c.sc locs) := ⟨R7, W7, na⟩
    have b07 := b04.trans b47
    obtain ⟨dx7, fs7, e7, e8⟩ := wk.R.nomt (m := "block")
    refine ⟨_, rfl, r, dx7, fs7, rfl, e7, e8, r, p, l, ws, j, c.sc locs, rfl, wk, ?_⟩
    cases x2 : pBlk ws (c.sc locs) 6 j with
    | error m =>
      rw [x2] at q
      exact Ref.later q b07
    | ok y =>
      obtain ⟨bk, m⟩ := y
      rw [x2] at q
      dsimp only at q
      intro v8 H8 b8 W8 d8
      have b08 := b07.trans b8
      have wk8 := wk.go _ _ _ b8 W8
      obtain ⟨dx8, fs8, e9, e10⟩ := W8.nomt (m := "one_of")
      refine ⟨_, rfl, p, dx8, fs8, rfl, e9, e10, by show 1 ≤ sizeLine; decide, fun t9 ht9 => ?_⟩
      have m9 := Gm.same_new ht9 (.tup [V.str "answer"])
      refine ⟨p, l, ws, m, _, ["answer"], rfl, W8.same m9, ⟨t9, rfl, .inr (.inl (SqT.of upd_same))⟩, by decide +kernel, ?_⟩
      unfold Tk1
      by_cases c4 : wd ws m = "answer"
      rotate_left
      · rw [if_neg c4] at q
        rw [if_neg (fun z => c4 (List.mem_singleton.mp (of_decide_eq_true z)))]
        exact Ref.later q (b08.trans (But.same m9))
      rw [if_pos c4] at q
      rw [if_pos (decide_eq_true (by rw [c4]; exact List.mem_cons_self))]
      intro H10 b10 W10
      have b810 := (But.same (p := p) m9).trans b10
      have b010 := b08.trans b810
      have wk10 := wk8.go _ _ _ b810 W10
      obtain ⟨dx10, fs10, e11, e12⟩ := wk10.R.nomt (m := "expression")
      refine ⟨_, rfl, r, dx10, fs10, rfl, e11, e12, r, p, l, ws, m + 1, c.sc locs, rfl, wk10, ?_⟩
      cases x3 : pExpr ws (c.sc locs) 7 (m + 1) with
      | error n =>
        rw [x3] at q
        exact Ref.later q b010
      | ok y =>
        obtain ⟨ex, n⟩ := y
        rw [x3] at q
        dsimp only at q
        intro v11 H11 b11 W11 d11
        have b011 := b010.trans b11
        obtain ⟨dx11, fs11, e13, e14⟩ := W11.nomt (m := "one_of")
        refine ⟨_, rfl, p, dx11, fs11, rfl, e13, e14, by show 1 ≤ sizeLine; decide, fun t12 ht12 => ?_⟩
        have m12 := Gm.same_new ht12 (.tup [V.str "end"])
        refine ⟨p, l, ws, n, _, ["end"], rfl, W11.same m12, ⟨t12, rfl, .inr (.inl (SqT.of upd_same))⟩, by decide +kernel, ?_⟩
        unfold Tk1
        by_cases c5 : wd ws n = "end"
        rotate_left
        · rw [if_neg c5] at q
          rw [if_neg (fun z => c5 (List.mem_singleton.mp (of_decide_eq_true z)))]
          exact Ref.later q (b011.trans (But.same m12))
        rw [if_pos c5] at q
        rw [if_pos (decide_eq_true (by rw [c5]; exact List.mem_cons_self))]
        intro H13 b13 W13
        have b1113 := (But.same (p := p) m12).trans b13
        have b413 : But p H4 H13 := b47.trans (b8.trans (b810.trans (b11.trans b1113)))
        have b813 : But p H8 H13 := b810.trans (b11.trans b1113)
        refine ⟨_, rfl, _, rfl, _, rfl, _, rfl, _, rfl, _, rfl, by show 6 ≤ sizeLine; decide, fun t14 ht14 => ?_⟩
        have m14 := Gm.same_new ht14 (.tup [V.str (wd ws i), V.int (numI ws (i + 1)), V.int (numI ws (i + 2)), V.ref a4, v8, v11])
        refine q _ _ ((b011.trans b1113).trans (But.same m14)) (W13.same m14) ?_
        refine dp_tup ht14 (.cons (.str _) (.cons (.int _) (.cons (.int _) (.cons ?_ (.cons ?_ (.cons ?_ .nil))))))
        · unfold strD
          exact .tup (W4.sqT b413 hs4) (dp_strs locs)
        · exact dp_tups (W8.tups b813) _ _ (Blk.nol bk) d8
        · exact W11.dp b1113 _ d11
theorem ok_procs (hP : PrF P file) (T : Txt K mg file) (hF : FormsAt K w T.a_FORMS) : FnOk P w K mg base (L2.CX P w) 37 T.a_read_procs T.fd_read_procs ["words", "names"] (spProcs T.C_Words T.C_BadText K) := by
  have G_another : FnOk P w K mg base CX0 4 T.a_another T.fd_another ["words", "kind", "found"] (spAnother T.C_Words K) := ok_another T
  have G_first_parts : FnOk P w K mg base CX0 1 T.a_first_parts T.fd_first_parts ["rows"] (spFirst K) := ok_first T
  have G_read_proc : FnOk P w K mg base (L2.CX P w) 36 T.a_read_proc T.fd_read_proc ["words", "names", "taken"] (spProc T.C_Words T.C_BadText K) := ok_proc hP T hF
  refine T.F_read_procs.okX sc_read_procs (fun vs H Q E h => ?_) (fun cdv A outer s H vs Q E hr h => ?_)
  · obtain ⟨p, l, nd, ws, i, c, rfl, _⟩ := h
    rfl
  obtain ⟨p, l, nd, ws, i, c, rfl, W, hc, co, q⟩ := h
  generalize hR : pMany ws "proc" (pProc ws c) 6 [] i = R at q
  refine ⟨_, (pss_cons (ps_set (i := 2) sc_read_procs.nd rfl (Or.inl rfl) (pe_lst pa_nil))
    (pss_cons (ps_while (passes_of rfl) (pt_val (pe_call G_another (hr.mono (by decide)) rfl T.g_another T.k_another T.b_another .nil pass0 (pa_cons (pv 0) (pa_cons pe_str (pa_cons (pv 2) pa_nil)))))
      (pss_one (ps_expr (pe_bm PySem.F.plainAttrs_list PySem.F.slot_list_append PySem.F.type_list_append mt_append (pv 2) (pa_cons (pe_call G_read_proc (hr.mono (by decide)) rfl T.g_read_proc T.k_read_proc T.b_read_proc .nil (passes_call (takes_of rfl rfl rfl rfl) (fun _ _ _ _ z => z)) (pa_cons (pv 0) (pa_cons (pv 1) (pa_cons (pe_call G_first_parts (hr.mono (by decide)) rfl T.g_first_parts T.k_first_parts T.b_first_parts .nil pass0 (pa_cons (pv 2) pa_nil)) pa_nil)))) pa_nil)))))
    (pss_one (ps_ret (pe_callTy call_tuple_of (by rfl) T.z_tuple (by decide +kernel) (pa_cons (pv 2) pa_nil)))))), ?_⟩
  refine ⟨by show 0 ≤ sizeLine; decide, fun L hL => ?_⟩
  have neL : p ≠ L := fun z => by
    obtain ⟨_, _, e, _⟩ := W.ob
    rw [z, hL] at e
    cases e
  have neLl : l ≠ L := fun z => by
    have h1 := W.li
    rw [z, hL] at h1
    cases h1
  have m0 := Gm.same_new hL (.lst [])
  have ctx : ∀ H', But p H H' → CtxAt K H' nd c := fun H' bb => by
    obtain ⟨a, b, d, e, hnd, ha, hb, hd, he⟩ := hc
    exact ⟨a, b, d, e, bb _ _ hnd (W.other hnd fun _ _ _ z => by cases z), W.sqL bb ha, W.sqL bb hb, W.sqL bb hd, W.sqL bb he⟩
  refine ⟨fun m σ H' => ∃ (vs : List V) (ps : List Pr) (j : Nat), σ = [some (.ref p), some (.ref nd), some (.ref L)] ∧ But p H H' ∧ WAt T.C_Words H' p l ws j ∧ H' L = some (.lst vs) ∧ DpAll K H' vs (ps.map Pr.d) ∧ ps.length + m = 6 ∧
      pMany ws "proc" (pProc ws c) m ps j = R, ⟨6, [], [], i, rfl, But.same m0, W.same m0, upd_same, .nil, rfl, hR⟩, ?_⟩
  rintro m σ H1 ⟨vs, ps, j, rfl, b1, W1, hL1, dd, hm, eq⟩
  have lv : vs.length = ps.length := (DpAll.len dd).trans (List.length_map _)
  refine ⟨_, rfl, _, rfl, p, l, L, ws, j, "proc", vs, rfl, W1, by decide +kernel, SqL.of hL1, ?_⟩
  by_cases c0 : wd ws j = "proc" ∧ vs.length ≠ 6
  · rw [if_pos c0]
    obtain ⟨n, rfl⟩ : ∃ n, m = n + 1 := ⟨m - 1, by have := c0.2; omega⟩
    unfold pMany at eq
    rw [if_pos c0.1] at eq
    intro H2 b2 W2
    refine ⟨_, rfl, ?_⟩
    refine ite2 (fun _ => ?_) (fun z => absurd rfl z)
    refine ⟨fun σ H' => ∃ (vs : List V) (ps : List Pr) (j : Nat), σ = [some (.ref p), some (.ref nd), some (.ref L)] ∧ But p H H' ∧ WAt T.C_Words H' p l ws j ∧ H' L = some (.lst vs) ∧ DpAll K H' vs (ps.map Pr.d) ∧ ps.length + n = 6 ∧
      pMany ws "proc" (pProc ws c) n ps j = R, fun σ' H' h => ⟨n, Nat.lt_succ_self n, h⟩, ?_⟩
    have hL2 := b2 _ _ hL1 (Ne.symm neL)
    have np := nolAll_procs ps
    have dd2 := dp_tupsAll (W1.tups b2) _ _ np dd
    have b12 := b1.trans b2
    refine ⟨_, rfl, .inl ⟨rfl, _, SqL.of hL2⟩, _, rfl, _, rfl, _, rfl, L, vs, ps.map Pr.d, ps.map (·.name), rfl, .inl (SqL.of hL2), dd2, np, heads_procs ps, by omega, fun L2 H3 m3 hL2n hL3 => ?_⟩
    have W3 := W2.same m3
    have b3 : But p H2 H3 := But.same m3
    refine ⟨p, l, nd, L2, ws, j + 1, c, ps, rfl, W3, ctx _ (b12.trans b3), co, SqL.of hL3, ?_⟩
    cases x : pProc ws c ps (j + 1) with
    | error e =>
      rw [x] at eq
      rw [← eq] at q
      exact Ref.later q (b12.trans b3)
    | ok y =>
      obtain ⟨y, j2⟩ := y
      rw [x] at eq
      dsimp only at eq
      intro v H4 b4 W4 d4
      have b34 := b3.trans b4
      have hL4 : H4 L = some (.lst vs) := b34 _ _ hL2 (Ne.symm neL)
      refine ⟨L, vs, v, rfl, rfl, hL4, Nat.lt_of_lt_of_le (show vs.length < 7 by omega) (by decide), vs ++ [v], ps ++ [y], j2, rfl, fun b o e nb => ?_, ?_, upd_same, ?_, ?_, eq⟩
      · by_cases hb : b = L
        · rw [hb, hL] at e
          cases e
        · rw [upd_ne hb]
          exact (b12.trans b34) b o e nb
      · obtain ⟨dx9, fs9, e9, rest⟩ := W4.ob
        exact ⟨⟨dx9, fs9, by rw [upd_ne neL]; exact e9, rest⟩, by rw [upd_ne neLl]; exact W4.li, W4.le, W4.sz, W4.wl⟩
      · rw [List.map_append]
        have tp := Tups.lst hL4 (o := .lst (vs ++ [v]))
        exact DpAll.app (dp_tupsAll tp _ _ np (dp_tupsAll (W2.tups b34) _ _ np dd2)) (.cons (dp_tups tp _ _ (Pr.nol y) d4) .nil)
      · rw [List.length_append]
        show ps.length + 1 + n = 6
        omega
  · rw [if_neg c0]
    refine ⟨_, rfl, ?_⟩
    refine ite2 (fun z => by cases z) (fun _ => ?_)
    have hb : pMany ws "proc" (pProc ws c) m ps j = .ok (ps, j) := by
      cases m with
      | zero => unfold pMany; rfl
      | succ n =>
        unfold pMany
        rw [if_neg (fun z => c0 ⟨z, by omega⟩)]
    rw [← eq, hb] at q
    refine ⟨_, rfl, L, vs, rfl, .inl ⟨SqL.of hL1, fun t ht => ?_⟩⟩
    have m3 := Gm.same_new ht (.tup vs)
    exact q _ _ (b1.trans (But.same m3)) (W1.same m3) (dp_tup ht dd)
theorem ok_Game (T : Txt K mg file) : FnOk P w K mg base CX0 1 T.a_Game_init T.fd_Game_init ["self", "variables", "tables", "lots", "procs"] (spGInit T.C_Game) := by
  refine T.F_Game_init.ok sc_Game_init (fun vs H Q E h => ?_) (fun cdv A outer s H vs Q E hr h => ?_)
  · obtain ⟨r, dx, v1, v2, v3, v4, rfl, _⟩ := h
    rfl
  obtain ⟨r, dx, v1, v2, v3, v4, rfl, hrr, q⟩ := h
  refine ⟨_, (pss_cons (ps_fld (pv 0) (pv 1) rfl)
    (pss_cons (ps_fld (pv 0) (pv 2) rfl)
    (pss_cons (ps_fld (pv 0) (pv 3) rfl)
    (pss_one (ps_fld (pv 0) (pv 4) rfl))))), ?_⟩
  refine ⟨_, rfl, _, rfl, r, _, dx, _, rfl, hrr, T.cl_Game, T.na_Game_variables, (by show 0 < 1000; decide), ?_⟩
  refine ⟨_, rfl, _, rfl, r, _, dx, _, rfl, upd_same, T.cl_Game, T.na_Game_tables, (by show 1 < 1000; decide), ?_⟩
  refine ⟨_, rfl, _, rfl, r, _, dx, _, rfl, upd_same, T.cl_Game, T.na_Game_lots, (by show 2 < 1000; decide), ?_⟩
  refine ⟨_, rfl, _, rfl, r, _, dx, _, rfl, upd_same, T.cl_Game, T.na_Game_procs, (by show 3 < 1000; decide), ?_⟩
  refine q _ _ (fun b o e n => by rw [upd_ne n, upd_ne n, upd_ne n, upd_ne n]; exact e) upd_same ?_ ?_ ?_ ?_ (fun x h1 h2 h3 h4 => ?_)
  · rw [lookup_putF, if_neg (by decide), lookup_putF, if_neg (by decide), lookup_putF, if_neg (by decide), lookup_putF, if_pos rfl]
  · rw [lookup_putF, if_neg (by decide), lookup_putF, if_neg (by decide), lookup_putF, if_pos rfl]
  · rw [lookup_putF, if_neg (by decide), lookup_putF, if_pos rfl]
  · rw [lookup_putF, if_pos rfl]
  · rw [lookup_putF, if_neg h4, lookup_putF, if_neg h3, lookup_putF, if_neg h2, lookup_putF, if_neg h1]
    rfl
end
end Toy
set_option Elab.async false
set_option linter.all false
set_option maxRecDepth 100000
set_option maxHeartbeats 4000000
namespace Toy
open PySem L2 Mine NdefX Gm Pz
section
variable {P : Program} {w : World} {K : PySem.W.Frag} {mg : Str → Option Value} {base : Heap} {file : Str}
theorem ok_read_game (hP : PrF P file) (T : Txt K mg file) (hF : FormsAt K w T.a_FORMS) : FnOk P w K mg base (L2.CX P w) 38 T.a_read_game T.fd_read_game ["text", "asked"] (spGame T.C_Game T.C_BadText K) := by
  have G_Words_init : FnOk P w K mg base CX0 2 T.a_Words_init T.fd_Words_init ["self", "text"] (spWords T.C_Words) := ok_Words T
  have G_read_variables : FnOk P w K mg base (L2.CX P w) 6 T.a_read_variables T.fd_read_variables ["words"] (spRows T.C_Words T.C_BadText K (some "var") (fun ws => pVar ws)) := ok_read_variables hP T
  have G_read_maps : FnOk P w K mg base (L2.CX P w) 6 T.a_read_maps T.fd_read_maps ["words", "kind"] (spRows T.C_Words T.C_BadText K none (fun ws => pMap ws)) := ok_read_maps hP T
  have G_first_parts : FnOk P w K mg base CX0 1 T.a_first_parts T.fd_first_parts ["rows"] (spFirst K) := ok_first T
  have G_is_name : FnOk P w K mg base CX0 1 T.a_is_name T.fd_is_name ["word"] spIsName := ok_is_name T
  have G_read_procs : FnOk P w K mg base (L2.CX P w) 37 T.a_read_procs T.fd_read_procs ["words", "names"] (spProcs T.C_Words T.C_BadText K) := ok_procs hP T hF
  have G_Words_finish : FnOk P w K mg base (L2.CX P w) 5 T.a_Words_finish T.fd_Words_finish ["self"] (spFinish T.C_Words T.C_BadText) := ok_finish hP T
  have G_Game_init : FnOk P w K mg base CX0 1 T.a_Game_init T.fd_Game_init ["self", "variables", "tables", "lots", "procs"] (spGInit T.C_Game) := ok_Game T
  refine T.F_read_game.ok sc_read_game (fun vs H Q E h => ?_) (fun cdv A outer s H vs Q E hr h => ?_)
  · obtain ⟨x, a, asks, rfl, _⟩ := h
    rfl
  obtain ⟨x, a, asks, rfl, hx, hs, hw, ha, haw, hal, q⟩ := h
  refine ⟨_, (pss_cons (ps_set (i := 2) sc_read_game.nd rfl (Or.inl rfl) (pe_make T.mk_Words G_Words_init (hr.mono (by decide)) rfl T.g_Words T.b_Words_init .nil pass0 (pa_cons (pv 0) pa_nil)))
    (pss_cons (ps_set (i := 3) sc_read_game.nd rfl (Or.inl rfl) (pe_call G_read_variables (hr.mono (by decide)) rfl T.g_read_variables T.k_read_variables T.b_read_variables .nil (passes_call (takes_of rfl rfl rfl rfl) (fun _ _ _ _ z => z)) (pa_cons (pv 2) pa_nil)))
    (pss_cons (ps_set (i := 4) sc_read_game.nd rfl (Or.inl rfl) (pe_call G_read_maps (hr.mono (by decide)) rfl T.g_read_maps T.k_read_maps T.b_read_maps .nil (passes_call (takes_of rfl rfl rfl rfl) (fun _ _ _ _ z => z)) (pa_cons (pv 2) (pa_cons pe_str pa_nil))))
    (pss_cons (ps_set (i := 5) sc_read_game.nd rfl (Or.inl rfl) (pe_call G_read_maps (hr.mono (by decide)) rfl T.g_read_maps T.k_read_maps T.b_read_maps .nil (passes_call (takes_of rfl rfl rfl rfl) (fun _ _ _ _ z => z)) (pa_cons (pv 2) (pa_cons pe_str pa_nil))))
    (pss_cons (ps_set (i := 6) sc_read_game.nd rfl (Or.inl rfl) (pe_disp (pps_cons pe_str (pe_call G_first_parts (hr.mono (by decide)) rfl T.g_first_parts T.k_first_parts T.b_first_parts .nil pass0 (pa_cons (pv 3) pa_nil)) (pps_cons pe_str (pe_call G_first_parts (hr.mono (by decide)) rfl T.g_first_parts T.k_first_parts T.b_first_parts .nil pass0 (pa_cons (pv 4) pa_nil)) (pps_cons pe_str (pe_call G_first_parts (hr.mono (by decide)) rfl T.g_first_parts T.k_first_parts T.b_first_parts .nil pass0 (pa_cons (pv 5) pa_nil)) (pps_cons pe_str (pe_lc (own := [("name", 7)]) (g := gName 7) rfl sc_read_game.nd (pi_tup (pv 1)) (blkOk_by (own := [("name", 7)]) (N := ["text", "asked", "words", "variables", "tables", "lots", "names", "name", "procs"]) (sc := defScope s_read_game) (by decide +kernel)) (fun _ _ _ _ _ => pg_name (i := 7) sc_read_game.nd rfl (Or.inl rfl)) (fun _ _ _ _ _ => pts_one (pt_val (pe_call G_is_name (hr.mono (by decide)) rfl T.g_is_name T.k_is_name T.b_is_name .nil pass0 (pa_cons (pv 7) pa_nil)))) (fun _ _ _ _ _ => (pv 7))) pps_nil)))) (by rfl) (by rfl) (fun z => by cases z) (by decide)))
    (pss_cons (ps_set (i := 8) sc_read_game.nd rfl (Or.inl rfl) (pe_call G_read_procs (hr.mono (by decide)) rfl T.g_read_procs T.k_read_procs T.b_read_procs .nil (passes_call (takes_of rfl rfl rfl rfl) (fun _ _ _ _ z => z)) (pa_cons (pv 2) (pa_cons (pv 6) pa_nil))))
    (pss_cons (ps_expr (pe_meth0 (pv 2) T.cl_Words T.m_Words_finish G_Words_finish (hr.mono (by decide)) T.b_Words_finish .nil (passes_call (takes_of rfl rfl rfl rfl) (fun _ _ _ _ z => z))))
    (pss_one (ps_ret (pe_make T.mk_Game G_Game_init (hr.mono (by decide)) rfl T.g_Game T.b_Game_init .nil pass0 (pa_cons (pv 3) (pa_cons (pv 4) (pa_cons (pv 5) (pa_cons (pv 8) pa_nil)))))))))))))), ?_⟩
  refine ⟨_, rfl, fun p dx hp hdx ne => ⟨p, dx, x, rfl, upd_same, hx, hs, hw, fun l H1 b1 W1 => ⟨rfl, ?_⟩⟩⟩
  generalize toWords x = ws at q W1
  have S1 : Same H H1 := fun b o e => b1 _ _ (by rw [upd_ne (ne_of_none e hp), upd_ne (ne_of_none e hdx)]; exact e) (ne_of_none e hp)
  have S : ∀ {H' : Hp}, But p H1 H' → Same H H' := fun {H'} bb => But.all hp S1 bb
  have ref : ∀ {H' : Hp} {j : Nat}, But p H1 H' → (∀ d H', Same H H' → H' d = some (.xd [("at", .int j)]) → E (.ref T.C_BadText) (some d) H') → Ref p T.C_BadText H' j E := fun {H' j} bb h d H2 b2 e => h d H2 (S (bb.trans b2)) e
  unfold pGame at q
  refine ⟨_, rfl, p, l, ws, 0, "var", ⟨rfl, rfl⟩, by decide +kernel, W1, ?_⟩
  show GEnd trips _ _ _ _ _ _ _ _ _ (pMany ws "var" (pVar ws) 6 [] 0)
  cases x1 : pMany ws "var" (pVar ws) 6 [] 0 with
  | error j =>
    rw [x1] at q
    exact ref (But.refl _ _) q
  | ok y =>
  obtain ⟨vs1, j1⟩ := y
  rw [x1] at q
  dsimp only at q
  intro v1 H2 b2 W2 d1
  refine ⟨_, rfl, p, l, ws, j1, "table", rfl, by decide +kernel, W2, ?_⟩
  show GEnd trips _ _ _ _ _ _ _ _ _ (pMany ws "table" (pMap ws) 6 [] j1)
  cases x2 : pMany ws "table" (pMap ws) 6 [] j1 with
  | error j =>
    rw [x2] at q
    exact ref b2 q
  | ok y =>
  obtain ⟨vs2, j2⟩ := y
  rw [x2] at q
  dsimp only at q
  intro v2 H3 b3 W3 d2
  have b13 := b2.trans b3
  refine ⟨_, rfl, p, l, ws, j2, "lots", rfl, by decide +kernel, W3, ?_⟩
  show GEnd trips _ _ _ _ _ _ _ _ _ (pMany ws "lots" (pMap ws) 6 [] j2)
  cases x3 : pMany ws "lots" (pMap ws) 6 [] j2 with
  | error j =>
    rw [x3] at q
    exact ref b13 q
  | ok y =>
  obtain ⟨vs3, j3⟩ := y
  rw [x3] at q
  dsimp only at q
  intro v3 H4 b4 W4 d3
  have b14 := b13.trans b4
  obtain ⟨n1, l1⟩ := many_ok (nm := fun x : Row => x.1) var_name (fun _ h => absurd h List.not_mem_nil) (Nat.le_refl 6) x1
  obtain ⟨n2, l2⟩ := many_ok (nm := fun x : Row => x.1) map_name (fun _ h => absurd h List.not_mem_nil) (Nat.le_refl 6) x2
  obtain ⟨n3, l3⟩ := many_ok (nm := fun x : Row => x.1) map_name (fun _ h => absurd h List.not_mem_nil) (Nat.le_refl 6) x3
  have d1' := dp_tups (W2.tups (b3.trans b4)) (trips vs1) _ (show nol (trips vs1) = true from nolAll_trips vs1) d1
  have d2' := dp_tups (W3.tups b4) (trips vs2) _ (show nol (trips vs2) = true from nolAll_trips vs2) d2
  have ae : Str.empty ∉ asks.filter isName := fun z => by
    have := (List.mem_filter.mp z).2
    rw [isName_empty] at this
    cases this
  have co : (⟨vs1.map (·.1), vs2.map (·.1), vs3.map (·.1), asks.filter isName⟩ : Pz.Ctx).Ok := ⟨not_empty n1, not_empty n2, not_empty n3, ae, by show (vs1.map (·.1)).length ≤ 100; rw [List.length_map]; omega⟩
  have d1k := d1'
  have d2k := d2'
  have d3k := d3
  cases d1' with
  | @tup a1 xs1 ds1 q1 p1 =>
  cases d2' with
  | @tup a2 xs2 ds2 q2 p2 =>
  cases d3 with
  | @tup a3 xs3 ds3 q3 p3 =>
  intro nd hnd
  have m5 := Gm.same_new hnd (.dK [])
  refine ⟨_, rfl, a1, xs1, _, vs1.map (·.1), rfl, .inr (sqT_mono m5 q1), dp_monoAll m5 _ _ p1, nolAll_trips vs1, heads_rows vs1, ?_, fun L1 H6 m6 hL1 e6 => ?_⟩
  · rw [DpAll.len p1, List.length_map]
    omega
  refine ⟨_, rfl, a2, xs2, _, vs2.map (·.1), rfl, .inr (sqT_mono (m5.trans m6) q2), dp_monoAll (m5.trans m6) _ _ p2, nolAll_trips vs2, heads_rows vs2, ?_, fun L2 H7 m7 hL2 e7 => ?_⟩
  · rw [DpAll.len p2, List.length_map]
    omega
  refine ⟨_, rfl, a3, xs3, _, vs3.map (·.1), rfl, .inr (sqT_mono ((m5.trans m6).trans m7) q3), dp_monoAll ((m5.trans m6).trans m7) _ _ p3, nolAll_trips vs3, heads_rows vs3, ?_, fun L3 H8 m8 hL3 e8 => ?_⟩
  · rw [DpAll.len p3, List.length_map]
    omega
  have m58 := ((m5.trans m6).trans m7).trans m8
  have S8 : Same H H8 := (S b14).trans m58
  refine ⟨_, rfl, a, rfl, ⟨_, sqT_mono S8 ha⟩, fun D hD => ?_⟩
  refine lc_it walk_tup (fun t H' => Same H8 H' ∧ H' D = some (.lst (((asks.take t).filter isName).map V.str))) ⟨Gm.same_new hD _, upd_same⟩ (fun _ H' _ h => sqT_mono (S8.trans h.1) ha) ?_ ?_
  · rintro t y H9 H10 ht ⟨m9, e9⟩ ⟨rfl, ey⟩
    refine ⟨rfl, ?_⟩
    rw [List.getElem?_map] at ey
    obtain ⟨n, en, rfl⟩ := Option.map_eq_some_iff.mp ey
    refine ⟨_, rfl, n, rfl, haw n (List.mem_of_getElem? en), fun H11 m11 => ⟨_, rfl, ?_⟩⟩
    have e11 := m11 _ _ e9
    refine ite2 (fun c => ?_) (fun c => ?_)
    · refine ⟨_, rfl, _, e11, ?_, (fun b o z => ?_), ?_⟩
      · rw [List.length_map]
        refine Nat.lt_of_le_of_lt (List.length_filter_le _ _) ?_
        rw [List.length_take]
        exact Nat.lt_of_le_of_lt (Nat.min_le_right _ _) (Nat.lt_of_le_of_lt hal (by decide))
      · rw [upd_ne (ne_of_none z hD)]
        exact m11 _ _ (m9 _ _ z)
      · rw [upd_same, take_more en, List.filter_append, List.map_append, List.filter_cons_of_pos (p := isName) c]
        rfl
    · refine ⟨m9.trans m11, ?_⟩
      rw [e11, take_more en, List.filter_append, List.filter_cons_of_neg (p := isName) c]
      exact congrArg (fun z => some (HO.lst (List.map V.str z))) (List.append_nil _).symm
  · rintro H9 ⟨m9, e9⟩
    rw [List.length_map, List.take_length] at e9
    have ndk : H9 nd = some (.dK []) := m9 _ _ (m8 _ _ (m7 _ _ (m6 _ _ upd_same)))
    refine ⟨ndk, kv4 (.ref L1) (.ref L2) (.ref L3) (.ref D), rfl, by show 4 ≤ 15; decide, ?_⟩
    generalize hH10 : upd H9 nd (.dK (mergeK [] (kv4 (V.ref L1) (V.ref L2) (V.ref L3) (V.ref D)))) = H10
    have m10 : ∀ b o, H4 b = some o → H10 b = some o := fun b o e => by
      rw [← hH10, upd_ne (ne_of_none e hnd)]
      exact m9 _ _ (m58 _ _ e)
    have k10 : ∀ {b : Addr} {xs : List V}, H9 b = some (.lst xs) → H10 b = some (.lst xs) := fun {b xs} e => by
      rw [← hH10, upd_ne (fun z => by rw [z, ndk] at e; cases e)]
      exact e
    have e10 : H10 nd = some (.dK [(.inr "variable", .ref L1), (.inr "table", .ref L2), (.inr "lots", .ref L3), (.inr "asked", .ref D)]) := by
      rw [← hH10, upd_same]
      exact congrArg (fun x => some (HO.dK x)) (merge4 _ _ _ _)
    have b410 : But p H4 H10 := But.same m10
    have b110 := b14.trans b410
    have W10 : WAt T.C_Words H10 p l ws j3 := W4.same m10
    have cx : CtxAt K H10 nd ⟨vs1.map (·.1), vs2.map (·.1), vs3.map (·.1), asks.filter isName⟩ :=
      ⟨L1, L2, L3, D, e10, SqL.of (k10 (m9 _ _ (m8 _ _ (m7 _ _ e6)))), SqL.of (k10 (m9 _ _ (m8 _ _ e7))), SqL.of (k10 (m9 _ _ e8)), SqL.of (k10 e9)⟩
    refine ⟨_, rfl, _, rfl, p, l, nd, ws, j3, _, rfl, W10, cx, co, ?_⟩
    cases x4 : pMany ws "proc" (pProc ws ⟨vs1.map (·.1), vs2.map (·.1), vs3.map (·.1), asks.filter isName⟩) 6 [] j3 with
    | error j =>
      rw [x4] at q
      exact ref b110 q
    | ok y =>
    obtain ⟨ps, j4⟩ := y
    rw [x4] at q
    dsimp only at q
    intro v4 H11 b11 W11 d4
    have b111 := b110.trans b11
    obtain ⟨dx2, fs2, e11, e12⟩ := W11.nomt (m := "finish")
    refine ⟨_, rfl, p, dx2, fs2, rfl, e11, e12, p, l, ws, j4, rfl, W11, ?_⟩
    by_cases c : j4 = ws.length
    rotate_left
    · rw [if_neg c] at q
      rw [if_neg c]
      exact ref b111 q
    rw [if_pos c] at q
    rw [if_pos c]
    have b411 := b410.trans b11
    refine ⟨_, rfl, _, rfl, _, rfl, _, rfl, fun r dxr hr0 hdxr ner => ⟨r, dxr, _, _, _, _, rfl, upd_same, fun H13 fs b13 hr13 k1 k2 k3 k4 kn => ⟨rfl, ?_⟩⟩⟩
    have m13 : Same H11 H13 := fun b o e => b13 _ _ (by rw [upd_ne (ne_of_none e hr0), upd_ne (ne_of_none e hdxr)]; exact e) (ne_of_none e hr0)
    have t413 : Tups H4 H13 := (W4.tups b411).trans (Tups.of m13)
    refine q r H13 ((S b111).trans m13) ⟨dxr, fs, _, _, _, _, hr13, k1, k2, k3, k4, kn, ?_, ?_, ?_, ?_⟩
    · exact dp_tups t413 (trips vs1) _ (show nol (trips vs1) = true from nolAll_trips vs1) d1k
    · exact dp_tups t413 (trips vs2) _ (show nol (trips vs2) = true from nolAll_trips vs2) d2k
    · exact dp_tups t413 (trips vs3) _ (show nol (trips vs3) = true from nolAll_trips vs3) d3k
    · exact dp_mono m13 _ _ d4
end
end Toy
set_option Elab.async false
set_option linter.all false
set_option maxRecDepth 100000
set_option maxHeartbeats 4000000
namespace Toy
open PySem L2 Mine NdefX Gm Pz
section
variable {P : Program} {w : World} {K : PySem.W.Frag} {mg : Str → Option Value} {base : Heap} {file : Str}
theorem ok_ew_step (T : Txt K mg file) (k : Nat) (sp0 : Sp) (G_expression_words : FnOk P w K mg base CX0 (k + 1) T.a_expression_words T.fd_expression_words ["expression"] sp0) (hsp : ∀ j, k = j + 1 → ∀ vs H Q E, spEW K j vs H Q E → sp0 vs H Q E) :
    FnOk P w K mg base CX0 (k + 2) T.a_expression_words T.fd_expression_words ["expression"] (spEW K k) := by
  refine T.F_expression_words.ok sc_expression_words (fun vs H Q E h => ?_) (fun cdv A outer s H vs Q E hr h => ?_)
  · obtain ⟨v, e, rfl, _⟩ := h
    rfl
  obtain ⟨v, e, rfl, d, g, hl, q⟩ := h
  refine ⟨_, (pss_cons (ps_set (i := 1) sc_expression_words.nd rfl (Or.inl rfl) (pe_ix ix_tup (pv 0) pe_int (fun _ _ => rfl)))
    (pss_cons (ps_if (pt_cmpR op_eq (pe_callB call_len_seq (by rfl) T.z_len (by decide +kernel) (pa_cons (pv 0) pa_nil)) pe_int (nomark _))
      (pss_one (ps_ret (pe_lst (pa_cons (pv 1) pa_nil))))
      pss_nil)
    (pss_cons (ps_if (pt_cmpR op_eq (pv 1) pe_str (nomark _))
      (pss_one (ps_ret (pe_lst (pa_cons (pe_callTy call_str_int (by rfl) T.z_str (by decide +kernel) (pa_cons (pe_ix ix_tup (pv 0) pe_int (fun _ _ => rfl)) pa_nil)) pa_nil))))
      pss_nil)
    (pss_cons (ps_if (pt_cmpR op_in_seq (pv 1) (pe_tup (pa_cons pe_str (pa_cons pe_str pa_nil))) rfl)
      (pss_one (ps_ret (pe_lst (pa_cons (pe_ix ix_tup (pv 0) pe_int (fun _ _ => rfl)) pa_nil))))
      pss_nil)
    (pss_cons (ps_if (pt_cmpR op_in_seq (pv 1) (pe_glob (v := .ref T.a_LOOKS) rfl T.g_LOOKS rfl) rfl)
      (pss_one (ps_ret (pe_lst (pa_cons (pv 1) (pa_cons (pe_ix ix_tup (pv 0) pe_int (fun _ _ => rfl)) (StX.pa_star (pe_call G_expression_words (hr.mono (by omega)) rfl T.g_expression_words T.k_expression_words T.b_expression_words .nil pass0 (pa_cons (pe_ix ix_tup (pv 0) pe_int (fun _ _ => rfl)) pa_nil)) pa_nil))))))
      pss_nil)
    (pss_one (ps_ret (pe_lst (pa_cons (pv 1) (StX.pa_star (pe_call G_expression_words (hr.mono (by omega)) rfl T.g_expression_words T.k_expression_words T.b_expression_words .nil pass0 (pa_cons (pe_ix ix_tup (pv 0) pe_int (fun _ _ => rfl)) pa_nil)) (StX.pa_star (pe_call G_expression_words (hr.mono (by omega)) rfl T.g_expression_words T.k_expression_words T.b_expression_words .nil pass0 (pa_cons (pe_ix ix_tup (pv 0) pe_int (fun _ _ => rfl)) pa_nil)) pa_nil))))))))))), ?_⟩
  have str1 : ∀ {y : V} {z : Str}, Dp K H y (.str z) → y = .str z := fun {y z} h => by cases h; rfl
  have one : ∀ (x : Str) (H1 : Hp), Same H H1 → eWords e = [x] → ∀ p, H1 p = none → Q (.ref p) (upd H1 p (.lst [V.str x])) := fun x H1 m ee p hp => by
    rw [ee] at q
    exact (q.same m) p _ (Gm.same_new hp _) hp upd_same
  cases k with
  | zero => cases e <;> (unfold exGood at g; cases g)
  | succ j =>
  have hsp' := hsp j rfl
  cases e with
  | num n =>
    unfold Ex.d at d
    cases d with
    | @tup a xs ds hs ha =>
    cases ha with
    | cons h1 h2 =>
    cases h1
    cases h2 with
    | cons h3 h4 =>
    cases h3
    cases h4
    have g' : 0 ≤ n ∧ n ≤ 65535 := by unfold exGood at g; exact of_decide_eq_true g
    refine ⟨_, rfl, a, _, 0, _, rfl, rfl, hs, atI_nat (j := 0) rfl, ?_⟩
    refine ⟨_, rfl, a, _, rfl, .inr hs, rfl, _, rfl, ?_⟩
    refine ite2 (fun z => absurd z (by simp)) (fun _ => ?_)
    refine ⟨_, rfl, rfl, _, rfl, ?_⟩
    refine ite2 (fun _ => ?_) (fun z => absurd (by rw [ds_str]; exact decide_eq_true rfl) z)
    refine ⟨_, rfl, a, _, 1, _, rfl, rfl, hs, atI_nat (j := 1) rfl, n, rfl, small_log g'.1 (by omega), by show 1 ≤ sizeLine; decide, fun p hp => ?_⟩
    exact one _ H (Same.refl _) rfl p hp
  | loc x =>
    unfold Ex.d at d
    cases d with
    | @tup a xs ds hs ha =>
    cases ha with
    | cons h1 h2 =>
    cases h1
    cases h2 with
    | cons h3 h4 =>
    cases h3
    cases h4
    refine ⟨_, rfl, a, _, 0, _, rfl, rfl, hs, atI_nat (j := 0) rfl, ?_⟩
    refine ⟨_, rfl, a, _, rfl, .inr hs, rfl, _, rfl, ?_⟩
    refine ite2 (fun z => absurd z (by simp)) (fun _ => ?_)
    refine ⟨_, rfl, rfl, _, rfl, ?_⟩
    refine ite2 (fun z => absurd z (by rw [ds_str]; decide)) (fun _ => ?_)
    refine ⟨_, rfl, by show 2 ≤ sizeLine; decide, fun t ht => ?_⟩
    have m1 := Gm.same_new ht (.tup [V.str "local", V.str "variable"])
    have hs1 := sqT_mono m1 hs
    refine ⟨t, _, rfl, .inr (SqT.of upd_same), rfl, rfl, _, rfl, ?_⟩
    have hi : ∀ w : Str, inV (.str w) [V.str "local", V.str "variable"] = decide (w ∈ ([("local" : Str), "variable"] : List Str)) := fun w => inV_strs w [("local" : Str), "variable"]
    rw [if_neg Bool.false_ne_true, hi]
    refine ite2 (fun _ => ?_) (fun z => absurd (by decide) z)
    refine ⟨_, rfl, a, _, 1, _, rfl, rfl, hs1, atI_nat (j := 1) rfl, by show 1 ≤ sizeLine; decide, fun p hp => ?_⟩
    exact one _ _ m1 rfl p hp
  | var x =>
    unfold Ex.d at d
    cases d with
    | @tup a xs ds hs ha =>
    cases ha with
    | cons h1 h2 =>
    cases h1
    cases h2 with
    | cons h3 h4 =>
    cases h3
    cases h4
    refine ⟨_, rfl, a, _, 0, _, rfl, rfl, hs, atI_nat (j := 0) rfl, ?_⟩
    refine ⟨_, rfl, a, _, rfl, .inr hs, rfl, _, rfl, ?_⟩
    refine ite2 (fun z => absurd z (by simp)) (fun _ => ?_)
    refine ⟨_, rfl, rfl, _, rfl, ?_⟩
    refine ite2 (fun z => absurd z (by rw [ds_str]; decide)) (fun _ => ?_)
    refine ⟨_, rfl, by show 2 ≤ sizeLine; decide, fun t ht => ?_⟩
    have m1 := Gm.same_new ht (.tup [V.str "local", V.str "variable"])
    have hs1 := sqT_mono m1 hs
    refine ⟨t, _, rfl, .inr (SqT.of upd_same), rfl, rfl, _, rfl, ?_⟩
    have hi : ∀ w : Str, inV (.str w) [V.str "local", V.str "variable"] = decide (w ∈ ([("local" : Str), "variable"] : List Str)) := fun w => inV_strs w [("local" : Str), "variable"]
    rw [if_neg Bool.false_ne_true, hi]
    refine ite2 (fun _ => ?_) (fun z => absurd (by decide) z)
    refine ⟨_, rfl, a, _, 1, _, rfl, rfl, hs1, atI_nat (j := 1) rfl, by show 1 ≤ sizeLine; decide, fun p hp => ?_⟩
    exact one _ _ m1 rfl p hp
  | has tn e =>
    unfold Ex.d at d
    cases d with
    | @tup a xs ds hs ha =>
    cases ha with
    | cons h1 h2 =>
    cases h1
    cases h2 with
    | cons h3 h4 =>
    cases h3
    cases h4 with
    | cons h5 h6 =>
    cases h6
    have g' : exGood j e = true := by unfold exGood at g; exact g
    refine ⟨_, rfl, a, _, 0, _, rfl, rfl, hs, atI_nat (j := 0) rfl, ?_⟩
    refine ⟨_, rfl, a, _, rfl, .inr hs, rfl, _, rfl, ?_⟩
    refine ite2 (fun z => absurd z (by simp)) (fun _ => ?_)
    refine ⟨_, rfl, rfl, _, rfl, ?_⟩
    refine ite2 (fun z => absurd z (by rw [ds_str]; decide)) (fun _ => ?_)
    refine ⟨_, rfl, by show 2 ≤ sizeLine; decide, fun t ht => ?_⟩
    have m1 := Gm.same_new ht (.tup [V.str "local", V.str "variable"])
    have hs1 := sqT_mono m1 hs
    refine ⟨t, _, rfl, .inr (SqT.of upd_same), rfl, rfl, _, rfl, ?_⟩
    have hi : ∀ w : Str, inV (.str w) [V.str "local", V.str "variable"] = decide (w ∈ ([("local" : Str), "variable"] : List Str)) := fun w => inV_strs w [("local" : Str), "variable"]
    rw [if_neg Bool.false_ne_true, hi]
    refine ite2 (fun z => absurd z (by decide)) (fun _ => ?_)
    refine ⟨_, rfl, _, _, rfl, .inr (T.q_LOOKS _), rfl, flat_strs _, _, rfl, ?_⟩
    rw [if_neg Bool.false_ne_true, inV_strs]
    refine ite2 (fun _ => ?_) (fun z => absurd (by decide) z)
    refine ⟨_, rfl, _, rfl, a, _, 1, _, rfl, rfl, hs1, atI_nat (j := 1) rfl, _, rfl, a, _, 2, _, rfl, rfl, hs1, atI_nat (j := 2) rfl, ?_⟩
    have el : eWords (.has tn e) = ("has" : Str) :: tn :: eWords e := rfl
    rw [el] at hl q
    have hl' : (eWords e).length ≤ 1000000 := by simp only [List.length_cons] at hl; omega
    refine hsp' _ _ _ _ ⟨_, e, rfl, dp_mono m1 _ _ h5, g', hl', fun L H2 m2 hL e2 => ?_⟩
    refine ⟨L, _, rfl, .inr (SqL.of e2), ?_, fun p hp => ?_⟩
    · simp only [List.length_cons, List.length_append, List.length_map, List.length_nil]
      exact Nat.le_trans (show (eWords e).length + 0 + 1 + 1 ≤ 2000000 by omega) (by decide)
    · refine q p _ ((m1.trans m2).trans (Gm.same_new hp _)) (by
        cases x : H p with
        | none => rfl
        | some o => rw [(m1.trans m2) _ _ x] at hp; cases hp) ?_
      rw [upd_same, List.append_nil]
      rfl
  | cell tn e =>
    unfold Ex.d at d
    cases d with
    | @tup a xs ds hs ha =>
    cases ha with
    | cons h1 h2 =>
    cases h1
    cases h2 with
    | cons h3 h4 =>
    cases h3
    cases h4 with
    | cons h5 h6 =>
    cases h6
    have g' : exGood j e = true := by unfold exGood at g; exact g
    refine ⟨_, rfl, a, _, 0, _, rfl, rfl, hs, atI_nat (j := 0) rfl, ?_⟩
    refine ⟨_, rfl, a, _, rfl, .inr hs, rfl, _, rfl, ?_⟩
    refine ite2 (fun z => absurd z (by simp)) (fun _ => ?_)
    refine ⟨_, rfl, rfl, _, rfl, ?_⟩
    refine ite2 (fun z => absurd z (by rw [ds_str]; decide)) (fun _ => ?_)
    refine ⟨_, rfl, by show 2 ≤ sizeLine; decide, fun t ht => ?_⟩
    have m1 := Gm.same_new ht (.tup [V.str "local", V.str "variable"])
    have hs1 := sqT_mono m1 hs
    refine ⟨t, _, rfl, .inr (SqT.of upd_same), rfl, rfl, _, rfl, ?_⟩
    have hi : ∀ w : Str, inV (.str w) [V.str "local", V.str "variable"] = decide (w ∈ ([("local" : Str), "variable"] : List Str)) := fun w => inV_strs w [("local" : Str), "variable"]
    rw [if_neg Bool.false_ne_true, hi]
    refine ite2 (fun z => absurd z (by decide)) (fun _ => ?_)
    refine ⟨_, rfl, _, _, rfl, .inr (T.q_LOOKS _), rfl, flat_strs _, _, rfl, ?_⟩
    rw [if_neg Bool.false_ne_true, inV_strs]
    refine ite2 (fun _ => ?_) (fun z => absurd (by decide) z)
    refine ⟨_, rfl, _, rfl, a, _, 1, _, rfl, rfl, hs1, atI_nat (j := 1) rfl, _, rfl, a, _, 2, _, rfl, rfl, hs1, atI_nat (j := 2) rfl, ?_⟩
    have el : eWords (.cell tn e) = ("cell" : Str) :: tn :: eWords e := rfl
    rw [el] at hl q
    have hl' : (eWords e).length ≤ 1000000 := by simp only [List.length_cons] at hl; omega
    refine hsp' _ _ _ _ ⟨_, e, rfl, dp_mono m1 _ _ h5, g', hl', fun L H2 m2 hL e2 => ?_⟩
    refine ⟨L, _, rfl, .inr (SqL.of e2), ?_, fun p hp => ?_⟩
    · simp only [List.length_cons, List.length_append, List.length_map, List.length_nil]
      exact Nat.le_trans (show (eWords e).length + 0 + 1 + 1 ≤ 2000000 by omega) (by decide)
    · refine q p _ ((m1.trans m2).trans (Gm.same_new hp _)) (by
        cases x : H p with
        | none => rfl
        | some o => rw [(m1.trans m2) _ _ x] at hp; cases hp) ?_
      rw [upd_same, List.append_nil]
      rfl
  | op o x y =>
    unfold Ex.d at d
    cases d with
    | @tup a xs ds hs ha =>
    cases ha with
    | cons h1 h2 =>
    cases h1
    cases h2 with
    | cons h3 h4 =>
    cases h4 with
    | cons h5 h6 =>
    cases h6
    have g' : o ∈ ops ∧ exGood j x = true ∧ exGood j y = true := by
      unfold exGood at g
      rw [Bool.and_eq_true, Bool.and_eq_true] at g
      exact ⟨of_decide_eq_true g.1.1, g.1.2, g.2⟩
    have n1 : o ≠ "number" := fun z => by rw [z] at g'; exact absurd g'.1 (by decide)
    have n2 : o ∉ ([("local" : Str), "variable"] : List Str) := fun z => (by decide : ∀ o ∈ ops, o ∉ ([("local" : Str), "variable"] : List Str)) o g'.1 z
    have n3 : o ∉ looks := fun z => (by decide : ∀ o ∈ ops, o ∉ looks) o g'.1 z
    refine ⟨_, rfl, a, _, 0, _, rfl, rfl, hs, atI_nat (j := 0) rfl, ?_⟩
    refine ⟨_, rfl, a, _, rfl, .inr hs, rfl, _, rfl, ?_⟩
    refine ite2 (fun z => absurd z (by simp)) (fun _ => ?_)
    refine ⟨_, rfl, rfl, _, rfl, ?_⟩
    refine ite2 (fun z => absurd z (by rw [ds_str]; rw [decide_eq_false n1]; decide)) (fun _ => ?_)
    refine ⟨_, rfl, by show 2 ≤ sizeLine; decide, fun t ht => ?_⟩
    have m1 := Gm.same_new ht (.tup [V.str "local", V.str "variable"])
    have hs1 := sqT_mono m1 hs
    refine ⟨t, _, rfl, .inr (SqT.of upd_same), rfl, rfl, _, rfl, ?_⟩
    have hi : ∀ w : Str, inV (.str w) [V.str "local", V.str "variable"] = decide (w ∈ ([("local" : Str), "variable"] : List Str)) := fun w => inV_strs w [("local" : Str), "variable"]
    rw [if_neg Bool.false_ne_true, hi]
    refine ite2 (fun z => absurd (of_decide_eq_true z) n2) (fun _ => ?_)
    refine ⟨_, rfl, _, _, rfl, .inr (T.q_LOOKS _), rfl, flat_strs _, _, rfl, ?_⟩
    rw [if_neg Bool.false_ne_true, inV_strs]
    refine ite2 (fun z => absurd (of_decide_eq_true z) n3) (fun _ => ?_)
    have el : eWords (.op o x y) = o :: (eWords x ++ eWords y) := rfl
    rw [el] at hl q
    have hx : (eWords x).length ≤ 1000000 := by simp only [List.length_cons, List.length_append] at hl; omega
    have hy : (eWords y).length ≤ 1000000 := by simp only [List.length_cons, List.length_append] at hl; omega
    refine ⟨_, rfl, _, rfl, a, _, 1, _, rfl, rfl, hs1, atI_nat (j := 1) rfl, ?_⟩
    refine hsp' _ _ _ _ ⟨_, x, rfl, dp_mono m1 _ _ h3, g'.2.1, hx, fun L H2 m2 hL e2 => ?_⟩
    refine ⟨L, _, rfl, .inr (SqL.of e2), _, rfl, a, _, 2, _, rfl, rfl, sqT_mono m2 hs1, atI_nat (j := 2) rfl, ?_⟩
    refine hsp' _ _ _ _ ⟨_, y, rfl, dp_mono (m1.trans m2) _ _ h5, g'.2.2, hy, fun L2 H3 m3 hL2 e3 => ?_⟩
    refine ⟨L2, _, rfl, .inr (SqL.of e3), ?_, fun p hp => ?_⟩
    · simp only [List.length_cons, List.length_append, List.length_map, List.length_nil]
      exact Nat.le_trans (show (eWords x).length + ((eWords y).length + 0) + 1 ≤ 2000001 by omega) (by decide)
    · have mm := (m1.trans m2).trans m3
      refine q p _ (mm.trans (Gm.same_new hp _)) (by
        cases x : H p with
        | none => rfl
        | some o => rw [mm _ _ x] at hp; cases hp) ?_
      rw [upd_same, List.append_nil, List.map_cons, List.map_append]
theorem ok_ew (T : Txt K mg file) : ∀ k : Nat, FnOk P w K mg base CX0 (k + 2) T.a_expression_words T.fd_expression_words ["expression"] (spEW K k)
  | 0 => ok_ew_step T 0 (fun _ _ _ _ => False) ⟨fun _ _ _ _ h => h.elim, fun _ _ _ _ _ _ _ _ _ _ _ _ _ h => h.elim⟩ (fun j h => absurd h (by omega))
  | k + 1 => ok_ew_step T (k + 1) _ (ok_ew T k) (fun j h vs H Q E q => by
      obtain rfl : k = j := by omega
      exact q)
end
end Toy
set_option Elab.async false
set_option linter.all false
set_option maxRecDepth 100000
set_option maxHeartbeats 4000000
namespace Toy
open PySem L2 Mine NdefX Gm Pz
section
variable {P : Program} {w : World} {K : PySem.W.Frag} {mg : Str → Option Value} {base : Heap} {file : Str}
theorem none_of_same {H H' : Hp} {p : Addr} (m : Same H H') (h : H' p = none) : H p = none := by
  cases x : H p with
  | none => rfl
  | some o => rw [m _ _ x] at h; cases h
theorem ok_bw_step (T : Txt K mg file) (d : Nat) (G_statement_words : FnOk P w K mg base CX0 (3 * d + 11) T.a_statement_words T.fd_statement_words ["statement"] (spSW K d)) :
    FnOk P w K mg base CX0 (3 * d + 12) T.a_block_words T.fd_block_words ["block"] (spBW K d) := by
  refine T.F_block_words.ok sc_block_words (fun vs H Q E h => ?_) (fun cdv A outer s H vs Q E hr h => ?_)
  · obtain ⟨v, x, rfl, _⟩ := h
    rfl
  obtain ⟨v, x, rfl, dx, g, hl, q⟩ := h
  refine ⟨_, (pss_cons (ps_set (i := 1) sc_block_words.nd rfl (Or.inl rfl) (pe_lst pa_nil))
    (pss_cons (ps_for PassesOwn.never rfl (pi_tup (pv 0)) (pg_name (i := 2) sc_block_words.nd rfl (Or.inl rfl))
      (pss_one (ps_expr (pe_bm PySem.F.plainAttrs_list PySem.F.slot_list_extend PySem.F.type_list_extend mt_extend (pv 1) (pa_cons (pe_call G_statement_words (hr.mono (by omega)) rfl T.g_statement_words T.k_statement_words T.b_statement_words .nil pass0 (pa_cons (pv 2) pa_nil)) pa_nil)))))
    (pss_one (ps_ret (pv 1))))), ?_⟩
  refine ⟨by show 0 ≤ sizeLine; decide, fun L hL => ?_⟩
  have m0 := Gm.same_new hL (.lst [])
  unfold Blk.d at dx
  rw [blkL_ds] at dx
  rw [blkL_words] at hl q
  cases dx with
  | @tup a vs ds hs ha =>
  have lv : vs.length = (blkL x).length := (DpAll.len ha).trans (List.length_map _)
  refine ⟨_, rfl, a, rfl, ⟨_, sqT_mono m0 hs⟩, ?_⟩
  refine for_it walk_tup (fun t σ H' => (∃ y, σ = [some (.ref a), some (.ref L), y]) ∧ Same H H' ∧ H' L = some (.lst ((((blkL x).take t).flatMap sWords).map V.str))) ⟨⟨none, rfl⟩, m0, upd_same⟩ (fun t σ H' _ h => sqT_mono h.2.1 hs) ?_ ?_
  · rintro t y σ H1 H2 ht ⟨⟨y0, rfl⟩, m1, e1⟩ ⟨rfl, ey⟩
    obtain ⟨z, ez⟩ : ∃ z, (blkL x)[t]? = some z := ⟨(blkL x)[t]'(by rw [← lv]; exact ht), List.getElem?_eq_getElem _⟩
    obtain ⟨y', ey', dy⟩ := DpAll.get ha (i := t) (d := z.d) (by rw [List.getElem?_map, ez]; rfl)
    rw [ey] at ey'
    cases ey'
    have hz : (sWords z).length ≤ ((blkL x).flatMap sWords).length := flatMap_one ez
    have ht2 : (((blkL x).take t).flatMap sWords).length ≤ ((blkL x).flatMap sWords).length := flatMap_len
    refine ⟨_, rfl, .inl ⟨rfl, _, SqL.of e1⟩, _, rfl, _, z, rfl, dp_mono m1 _ _ dy, blkL_good g z (List.mem_of_getElem? ez), Nat.le_trans hz hl, fun L2 H3 m3 hL2 e3 => ?_⟩
    refine ⟨L, L2, _, _, rfl, rfl, m3 _ _ e1, e3, ?_, ⟨_, rfl⟩, fun b o eb => ?_, ?_⟩
    · rw [List.length_map, List.length_map]
      exact Nat.le_trans (show (((blkL x).take t).flatMap sWords).length + (sWords z).length ≤ 2000000 by omega) (by decide)
    · rw [upd_ne (ne_of_none eb hL)]
      exact m3 _ _ (m1 _ _ eb)
    · rw [upd_same, flatMap_take ez, List.map_append]
  · rintro σ H1 ⟨⟨y0, rfl⟩, m1, e1⟩
    rw [lv, List.take_length] at e1
    exact ⟨_, rfl, q L H1 m1 hL e1⟩
theorem ok_cw_step (T : Txt K mg file) (d : Nat) (G_block_words : FnOk P w K mg base CX0 (3 * d + 12) T.a_block_words T.fd_block_words ["block"] (spBW K d)) :
    FnOk P w K mg base CX0 (3 * d + 13) T.a_choice_words T.fd_choice_words ["statement"] (spCW K d) := by
  have G_expression_words : FnOk P w K mg base CX0 10 T.a_expression_words T.fd_expression_words ["expression"] (spEW K 8) := ok_ew T 8
  refine T.F_choice_words.ok sc_choice_words (fun vs H Q E h => ?_) (fun cdv A outer s H vs Q E hr h => ?_)
  · obtain ⟨v, e, a, b, rfl, _⟩ := h
    rfl
  obtain ⟨v, e, a, b, rfl, dx, ge, ga, gb, hl, q⟩ := h
  refine ⟨_, (pss_cons (ps_asg (pv 0) (pg_tup rfl (pgs_cons (pg_name (i := 1) sc_choice_words.nd rfl (Or.inl rfl)) (pgs_cons (pg_name (i := 2) sc_choice_words.nd rfl (Or.inl rfl)) (pgs_cons (pg_name (i := 3) sc_choice_words.nd rfl (Or.inl rfl)) (pgs_cons (pg_name (i := 4) sc_choice_words.nd rfl (Or.inl rfl)) pgs_nil))))))
    (pss_cons (ps_set (i := 5) sc_choice_words.nd rfl (Or.inl rfl) (pe_lst (pa_cons pe_str (StX.pa_star (pe_call G_expression_words (hr.mono (by omega)) rfl T.g_expression_words T.k_expression_words T.b_expression_words .nil pass0 (pa_cons (pv 2) pa_nil)) (StX.pa_star (pe_call G_block_words (hr.mono (by omega)) rfl T.g_block_words T.k_block_words T.b_block_words .nil pass0 (pa_cons (pv 3) pa_nil)) pa_nil)))))
    (pss_cons (ps_if (pt_truth (pv 4) (by intro _; rfl))
      (pss_one (ps_expr (pe_bm PySem.F.plainAttrs_list PySem.F.slot_list_extend PySem.F.type_list_extend mt_extend (pv 5) (pa_cons (pe_lst (pa_cons pe_str (StX.pa_star (pe_call G_block_words (hr.mono (by omega)) rfl T.g_block_words T.k_block_words T.b_block_words .nil pass0 (pa_cons (pv 4) pa_nil)) pa_nil))) pa_nil))))
      pss_nil)
    (pss_one (ps_ret (pe_lst (StX.pa_star (pv 5) (pa_cons pe_str pa_nil)))))))), ?_⟩
  unfold Stm.d at dx
  cases dx with
  | @tup ad xs ds hs ha =>
  cases ha with
  | cons h1 h2 =>
  cases h2 with
  | cons h3 h4 =>
  cases h4 with
  | cons h5 h6 =>
  cases h6 with
  | cons h7 h8 =>
  cases h8
  cases h1
  unfold sWords at hl q
  simp only [List.length_cons, List.length_append, List.length_nil] at hl
  have le : (eWords e).length ≤ 1000000 := by omega
  have la : (bWords a).length ≤ 1000000 := by omega
  refine ⟨_, rfl, ad, _, rfl, hs, rfl, _, _, rfl, _, _, rfl, _, _, rfl, _, _, rfl, rfl, ?_⟩
  refine ⟨_, rfl, _, e, rfl, h3, ge, le, fun L1 H1 m1 hL1 e1 => ?_⟩
  refine ⟨L1, _, rfl, .inr (SqL.of e1), _, rfl, _, a, rfl, dp_mono m1 _ _ h5, ga, la, fun L2 H2 m2 hL2 e2 => ?_⟩
  refine ⟨L2, _, rfl, .inr (SqL.of e2), ?_, fun L hL => ?_⟩
  · simp only [List.length_cons, List.length_append, List.length_map, List.length_nil]
    exact Nat.le_trans (show (eWords e).length + ((bWords a).length + 0) + 1 ≤ 2000001 by omega) (by decide)
  have m12 := m1.trans m2
  have m3 := Gm.same_new hL (.lst (V.str "if" :: ((eWords e).map V.str ++ ((bWords a).map V.str ++ []))))
  have m13 := m12.trans m3
  have eL : (V.str "if" :: ((eWords e).map V.str ++ ((bWords a).map V.str ++ []))) = (("if" : Str) :: (eWords e ++ bWords a)).map V.str := by
    rw [List.append_nil, List.map_cons, List.map_append]
  have h7k := h7
  cases h7 with
  | @tup a4 vs4 ds4 hs4 ha4 =>
  have l4 : vs4.length = b.len := by rw [DpAll.len ha4, Blk.len_ds]
  refine ⟨_, rfl, !vs4.isEmpty, .inr (.inl ⟨_, sqT_mono m13 hs4, rfl⟩), ?_⟩
  have le4 : vs4.isEmpty = decide (b.len = 0) := by
    cases vs4 with
    | nil => exact (decide_eq_true l4.symm).symm
    | cons z zs => exact (decide_eq_false (by rw [← l4]; exact Nat.succ_ne_zero _)).symm
  rw [le4]
  by_cases c : b.len = 0
  · rw [if_pos c] at q hl
    rw [decide_eq_true c]
    refine ite2 (fun z => by cases z) (fun _ => ?_)
    refine ⟨_, rfl, L, _, rfl, .inr (SqL.of (by rw [upd_same, eL])), ?_, fun L5 hL5 => ?_⟩
    · simp only [List.length_append, List.length_map, List.length_cons, List.length_nil]
      exact Nat.le_trans (show (eWords e).length + (bWords a).length + 1 + (0 + 1) ≤ 2000002 by omega) (by decide)
    · refine q L5 _ (m13.trans (Gm.same_new hL5 _)) (none_of_same m13 hL5) ?_
      rw [upd_same]
      simp only [List.map_append, List.map_cons, List.map_nil, List.append_nil, List.cons_append, List.append_assoc]
  · rw [if_neg c] at q hl
    rw [decide_eq_false c]
    refine ite2 (fun _ => ?_) (fun z => absurd rfl z)
    simp only [List.length_cons] at hl
    have lb : (bWords b).length ≤ 1000000 := by omega
    refine ⟨_, rfl, .inl ⟨rfl, _, SqL.of upd_same⟩, _, rfl, _, b, rfl, dp_mono m13 _ _ h7k, gb, lb, fun L6 H6 m6 hL6 e6 => ?_⟩
    refine ⟨L6, _, rfl, .inr (SqL.of e6), ?_, fun L7 hL7 => ?_⟩
    · simp only [List.length_append, List.length_map, List.length_cons, List.length_nil]
      exact Nat.le_trans (show (bWords b).length + 0 + 1 ≤ 2000001 by omega) (by decide)
    have eL6 := m6 _ _ (show (upd H2 L (.lst (V.str "if" :: ((eWords e).map V.str ++ ((bWords a).map V.str ++ []))))) L = _ from upd_same)
    have m7 := Gm.same_new hL7 (.lst (V.str "else" :: ((bWords b).map V.str ++ [])))
    refine ⟨L, L7, _, _, rfl, rfl, m7 _ _ eL6, upd_same, ?_, ?_⟩
    · simp only [List.length_append, List.length_map, List.length_cons, List.length_nil]
      exact Nat.le_trans (show (eWords e).length + ((bWords a).length + 0) + 1 + ((bWords b).length + 0 + 1) ≤ 3000002 by omega) (by decide)
    refine ⟨_, rfl, L, _, rfl, .inr (SqL.of upd_same), ?_, fun L5 hL5 => ?_⟩
    · simp only [List.length_append, List.length_map, List.length_cons, List.length_nil]
      exact Nat.le_trans (show (eWords e).length + ((bWords a).length + 0) + 1 + ((bWords b).length + 0 + 1) + (0 + 1) ≤ 3000003 by omega) (by decide)
    · have hL2' : H2 L = none := hL
      have m17 : Same H _ := (m12.trans (fun x o ex => by
        rw [upd_ne (ne_of_none ex hL)]
        exact m7 _ _ (m6 _ _ (m3 _ _ ex))) : Same H (upd (upd H6 L7 (.lst (V.str "else" :: ((bWords b).map V.str ++ [])))) L (.lst ((V.str "if" :: ((eWords e).map V.str ++ ((bWords a).map V.str ++ []))) ++ (V.str "else" :: ((bWords b).map V.str ++ []))))))
      refine q L5 _ (m17.trans (Gm.same_new hL5 _)) (none_of_same m17 hL5) ?_
      rw [upd_same]
      simp only [List.map_append, List.map_cons, List.map_nil, List.append_nil, List.cons_append, List.append_assoc]
theorem cut_tail (x : V) (xs : List V) : cutV (x :: xs) (some 1) none = xs := by
  have e1 : HT.sIx (x :: xs).length 0 (some 1) = 1 := by
    have : ¬ ((1 : Int) < 0) := by decide
    simp [HT.sIx]
  have e2 : HT.sIx (x :: xs).length (x :: xs).length none = (x :: xs).length := rfl
  unfold cutV
  rw [e1, e2, List.drop_succ_cons, List.drop_zero, List.length_cons, Nat.add_sub_cancel, List.take_length]
theorem ok_sw_step (T : Txt K mg file) (hF : FormsAt K w T.a_FORMS) (d : Nat) (spC spB : Sp) (G_choice_words : FnOk P w K mg base CX0 (3 * d + 10) T.a_choice_words T.fd_choice_words ["statement"] spC)
    (G_block_words : FnOk P w K mg base CX0 (3 * d + 10) T.a_block_words T.fd_block_words ["block"] spB) (hC : ∀ j, d = j + 1 → ∀ vs H Q E, spCW K j vs H Q E → spC vs H Q E) (hB : ∀ j, d = j + 1 → ∀ vs H Q E, spBW K j vs H Q E → spB vs H Q E) :
    FnOk P w K mg base CX0 (3 * d + 11) T.a_statement_words T.fd_statement_words ["statement"] (spSW K d) := by
  have G_expression_words : FnOk P w K mg base CX0 10 T.a_expression_words T.fd_expression_words ["expression"] (spEW K 8) := ok_ew T 8
  refine T.F_statement_words.ok sc_statement_words (fun vs H Q E h => ?_) (fun cdv A outer s H vs Q E hr h => ?_)
  · obtain ⟨v, x, rfl, _⟩ := h
    rfl
  obtain ⟨v, x, rfl, dx, g, hl, q⟩ := h
  refine ⟨_, (pss_cons (ps_set (i := 1) sc_statement_words.nd rfl (Or.inl rfl) (pe_ix ix_tup (pv 0) pe_int (fun _ _ => rfl)))
    (pss_cons (ps_if (pt_cmpR op_eq (pv 1) pe_str (nomark _))
      (pss_one (ps_ret (pe_call G_choice_words (hr.mono (by omega)) rfl T.g_choice_words T.k_choice_words T.b_choice_words .nil pass0 (pa_cons (pv 0) pa_nil))))
      pss_nil)
    (pss_cons (ps_if (pt_cmpR op_eq (pv 1) pe_str (nomark _))
      (pss_one (ps_ret (pe_lst (pa_cons pe_str (StX.pa_star (pe_call G_block_words (hr.mono (by omega)) rfl T.g_block_words T.k_block_words T.b_block_words .nil pass0 (pa_cons (pe_ix ix_tup (pv 0) pe_int (fun _ _ => rfl)) pa_nil)) (pa_cons pe_str pa_nil))))))
      pss_nil)
    (pss_cons (ps_set (i := 2) sc_statement_words.nd rfl (Or.inl rfl) (pe_lst (pa_cons (pv 1) pa_nil)))
    (pss_cons (ps_for PassesOwn.never rfl (RZ.pi_zipA (by rfl) T.z_zip (pa_cons (pe_ix ix_kdict (pe_glob (v := .ref T.a_FORMS) rfl T.g_FORMS rfl) (pv 1) (fun _ _ => rfl)) (pa_cons (pe_slice (slTB K rfl) (pv 0) (po_some pe_int) po_none) pa_nil))) (pg_tup rfl (pgs_cons (pg_name (i := 3) sc_statement_words.nd rfl (Or.inl rfl)) (pgs_cons (pg_name (i := 4) sc_statement_words.nd rfl (Or.inl rfl)) pgs_nil)))
      (pss_one (ps_expr (pe_bm PySem.F.plainAttrs_list PySem.F.slot_list_extend PySem.F.type_list_extend mt_extend (pv 2) (pa_cons (pe_ifExp (pt_cmpR op_eq (pv 3) pe_str (nomark _)) (pe_call G_expression_words (hr.mono (by omega)) rfl T.g_expression_words T.k_expression_words T.b_expression_words .nil pass0 (pa_cons (pv 4) pa_nil)) (pe_lst (pa_cons (pe_callTy call_str_part (by rfl) T.z_str (by decide +kernel) (pa_cons (pv 4) pa_nil)) pa_nil))) pa_nil)))))
    (pss_one (ps_ret (pv 2)))))))), ?_⟩
  by_cases ci : ∃ e a b, x = .ite e a b
  · obtain ⟨e, a, b, rfl⟩ := ci
    cases d with
    | zero => unfold stmGood at g; cases g
    | succ j =>
    unfold stmGood at g
    rw [Bool.and_eq_true, Bool.and_eq_true] at g
    have dk := dx
    unfold Stm.d at dx
    cases dx with
    | @tup ad xs ds hs ha =>
    cases ha with
    | cons h1 h2 =>
    cases h1
    refine ⟨_, rfl, ad, _, 0, _, rfl, rfl, hs, atI_nat (j := 0) rfl, ?_⟩
    refine ⟨_, rfl, rfl, _, rfl, ?_⟩
    refine ite2 (fun _ => ?_) (fun z => absurd (by rw [ds_str]; exact decide_eq_true rfl) z)
    exact ⟨_, rfl, hC j rfl _ _ _ _ ⟨_, e, a, b, rfl, dk, g.1.1, g.1.2, g.2, hl, q⟩⟩
  by_cases ca : ∃ a, x = .after a
  · obtain ⟨a, rfl⟩ := ca
    cases d with
    | zero => unfold stmGood at g; cases g
    | succ j =>
    unfold stmGood at g
    unfold Stm.d at dx
    cases dx with
    | @tup ad xs ds hs ha =>
    cases ha with
    | cons h1 h2 =>
    cases h1
    cases h2 with
    | cons h3 h4 =>
    cases h4
    unfold sWords at hl q
    simp only [List.length_cons, List.length_append, List.length_nil] at hl
    refine ⟨_, rfl, ad, _, 0, _, rfl, rfl, hs, atI_nat (j := 0) rfl, ?_⟩
    refine ⟨_, rfl, rfl, _, rfl, ?_⟩
    refine ite2 (fun z => absurd z (by rw [ds_str]; decide)) (fun _ => ?_)
    refine ⟨_, rfl, rfl, _, rfl, ?_⟩
    refine ite2 (fun _ => ?_) (fun z => absurd (by rw [ds_str]; exact decide_eq_true rfl) z)
    refine ⟨_, rfl, ad, _, 1, _, rfl, rfl, hs, atI_nat (j := 1) rfl, ?_⟩
    refine hB j rfl _ _ _ _ ⟨_, a, rfl, h3, g, by omega, fun L H2 m2 hL e2 => ?_⟩
    refine ⟨L, _, rfl, .inr (SqL.of e2), ?_, fun p hp => ?_⟩
    · simp only [List.length_cons, List.length_append, List.length_map, List.length_nil]
      exact Nat.le_trans (show (bWords a).length + (0 + 1) + 1 ≤ 2000002 by omega) (by decide)
    · refine q p _ (m2.trans (Gm.same_new hp _)) (none_of_same m2 hp) ?_
      rw [upd_same, List.map_cons, List.map_append]
      rfl
  obtain ⟨kw, xs, si⟩ := simple_of g (fun e a b z => ci ⟨e, a, b, z⟩) (fun a z => ca ⟨a, z⟩)
  rw [si.d] at dx
  rw [si.s] at hl q
  cases dx with
  | @tup ad vs ds hs ha =>
  cases ha with
  | @cons v0 vs' d0 ds0 h1 h2 =>
  cases h1
  have nk : kw ≠ "if" ∧ kw ≠ "after" := (by decide : ∀ w ∈ words, w ≠ "if" ∧ w ≠ "after") kw si.mem
  have lv : vs'.length = xs.length := (DpAll.len h2).trans (List.length_map _)
  have lk : (formOf kw).length ≤ 10 := (by decide : ∀ w ∈ words, (formOf w).length ≤ 10) kw si.mem
  refine ⟨_, rfl, ad, _, 0, _, rfl, rfl, hs, atI_nat (j := 0) rfl, ?_⟩
  refine ⟨_, rfl, rfl, _, rfl, ?_⟩
  refine ite2 (fun z => absurd z (by rw [ds_str, decide_eq_false nk.1]; decide)) (fun _ => ?_)
  refine ⟨_, rfl, rfl, _, rfl, ?_⟩
  refine ite2 (fun z => absurd z (by rw [ds_str, decide_eq_false nk.2]; decide)) (fun _ => ?_)
  refine ⟨_, rfl, by show 1 ≤ sizeLine; decide, fun L hL => ?_⟩
  have m0 := Gm.same_new hL (.lst [V.str kw])
  obtain ⟨ka, kd, kt⟩ := hF.get kw si.mem
  refine ⟨_, rfl, T.a_FORMS, _, _, rfl, rfl, kd, _, rfl, _, rfl, ad, _, rfl, sqT_mono m0 hs, fun p H1 m1 hp => ?_⟩
  have ec : cutV (V.str kw :: vs') (some 1) none = vs' := cut_tail _ _
  rw [ec] at hp
  have m01 := m0.trans m1
  refine ⟨ka, p, _, _, rfl, .inr ⟨kt _, hp, ?_⟩⟩
  have hn : xs.length = min ((formOf kw).map V.str).length vs'.length := by rw [List.length_map, lv, si.k, Nat.min_self]
  have hp1 : SqT K H1 p vs' := hp
  refine for_it (walk_zipT hn) (fun t σ H' => (∃ y3 y4, σ = [some (.ref ad), some (.str kw), some (.ref L), y3, y4]) ∧ Same H H' ∧ H' L = some (.lst ((kw :: (xs.take t).flatMap ptWords).map V.str)) ∧ SqT K H' p vs') ⟨⟨none, none, rfl⟩, m01, m1 _ _ upd_same, hp⟩ (fun t σ H' _ h => ⟨kt _, h.2.2.2⟩) ?_ ?_
  · rintro t y σ H2 H3 ht ⟨⟨y3, y4, rfl⟩, m2, e2, hp2⟩ ⟨Tp, z1, z2, rfl, hTp, rfl, ex1, ex2⟩
    obtain ⟨kd0, ek, rfl⟩ := Option.map_eq_some_iff.mp (by rw [← List.getElem?_map]; exact ex1)
    have htx : t < xs.length := ht
    obtain ⟨pt, ep⟩ : ∃ pt, xs[t]? = some pt := ⟨xs[t]'htx, List.getElem?_eq_getElem _⟩
    obtain ⟨z2', ez2, dz⟩ := DpAll.get h2 (i := t) (d := pt.d) (by rw [List.getElem?_map, ep]; rfl)
    have ex2 : vs'[t]? = some z2 := ex2
    rw [ex2] at ez2
    cases ez2
    have m3 := Gm.same_new hTp (.tup [V.str kd0, z2])
    have e3 := m3 _ _ e2
    have hp3 := sqT_mono m3 hp2
    have hz : (ptWords pt).length ≤ (xs.flatMap ptWords).length := flatMap_one ep
    have ht2 : ((xs.take t).flatMap ptWords).length ≤ (xs.flatMap ptWords).length := flatMap_len
    simp only [List.length_cons] at hl
    refine ⟨Tp, _, rfl, SqT.of upd_same, rfl, _, _, rfl, _, _, rfl, rfl, ?_⟩
    refine ⟨_, rfl, .inl ⟨rfl, _, SqL.of e3⟩, _, rfl, rfl, _, rfl, ?_⟩
    rw [ds_str]
    rcases si.fit t kd0 pt ek ep with ⟨hk, e, rfl, ge⟩ | ⟨hk, hy⟩
    · rw [decide_eq_true hk]
      refine ite2 (fun _ => ?_) (fun z => absurd rfl z)
      refine ⟨_, rfl, _, e, rfl, dp_mono (m2.trans m3) _ _ dz, ge, ?_, fun L2 H4 m4 hL2 e4 => ?_⟩
      · have hz' : (eWords e).length ≤ (xs.flatMap ptWords).length := hz
        omega
      have e4 : H4 L2 = some (.lst ((ptWords (.e e)).map V.str)) := e4
      refine ⟨L, L2, _, _, rfl, rfl, (m4 _ _ e3), e4, ?_, ⟨_, _, rfl⟩, fun b o eb => ?_, ?_, ?_⟩
      · rw [List.length_map, List.length_map, List.length_cons]
        exact Nat.le_trans (show ((xs.take t).flatMap ptWords).length + 1 + (ptWords (.e e)).length ≤ 2000002 by omega) (by decide)
      · rw [upd_ne (ne_of_none eb hL)]
        exact m4 _ _ (m3 _ _ (m2 _ _ eb))
      · rw [upd_same, flatMap_take ep, List.map_cons, List.map_cons, List.map_append]
        rfl
      · exact sqT_tups (Tups.lst (m4 _ _ e3)) (sqT_mono m4 hp3)
    · rw [decide_eq_false hk]
      refine ite2 (fun z => by cases z) (fun _ => ?_)
      rcases hy with ⟨y, rfl⟩ | ⟨n, rfl, gn⟩
      · have dz : Dp K H z2 (.str y) := dz
        cases dz
        refine ⟨_, rfl, .inr ⟨y, rfl, by show 1 ≤ sizeLine; decide, fun L2 hL2 => ?_⟩⟩
        have m4 := Gm.same_new hL2 (.lst [V.str y])
        refine ⟨L, L2, _, _, rfl, rfl, (m4 _ _ e3), upd_same, ?_, ⟨_, _, rfl⟩, fun b o eb => ?_, ?_, ?_⟩
        · rw [List.length_map, List.length_cons]
          exact Nat.le_trans (show ((xs.take t).flatMap ptWords).length + 1 + 1 ≤ 2000002 by omega) (by decide)
        · rw [upd_ne (ne_of_none eb hL)]
          exact m4 _ _ (m3 _ _ (m2 _ _ eb))
        · rw [upd_same, flatMap_take ep, List.map_cons, List.map_cons, List.map_append]
          rfl
        · exact sqT_tups (Tups.lst (m4 _ _ e3)) (sqT_mono m4 hp3)
      · have dz : Dp K H z2 (.int n) := dz
        cases dz
        refine ⟨_, rfl, .inl ⟨n, rfl, small_log gn.1 (by omega), by show 1 ≤ sizeLine; decide, fun L2 hL2 => ?_⟩⟩
        have m4 := Gm.same_new hL2 (.lst [V.str (toString n)])
        refine ⟨L, L2, _, _, rfl, rfl, (m4 _ _ e3), upd_same, ?_, ⟨_, _, rfl⟩, fun b o eb => ?_, ?_, ?_⟩
        · rw [List.length_map, List.length_cons]
          exact Nat.le_trans (show ((xs.take t).flatMap ptWords).length + 1 + 1 ≤ 2000002 by omega) (by decide)
        · rw [upd_ne (ne_of_none eb hL)]
          exact m4 _ _ (m3 _ _ (m2 _ _ eb))
        · rw [upd_same, flatMap_take ep, List.map_cons, List.map_cons, List.map_append]
          rfl
        · exact sqT_tups (Tups.lst (m4 _ _ e3)) (sqT_mono m4 hp3)
  · rintro σ H2 ⟨⟨y3, y4, rfl⟩, m2, e2, _⟩
    rw [List.take_length] at e2
    exact ⟨_, rfl, q L H2 m2 hL e2⟩
theorem ok_sw (T : Txt K mg file) (hF : FormsAt K w T.a_FORMS) : ∀ d : Nat, FnOk P w K mg base CX0 (3 * d + 11) T.a_statement_words T.fd_statement_words ["statement"] (spSW K d)
  | 0 => ok_sw_step T hF 0 (fun _ _ _ _ => False) (fun _ _ _ _ => False) ⟨fun _ _ _ _ h => h.elim, fun _ _ _ _ _ _ _ _ _ _ _ _ _ h => h.elim⟩ ⟨fun _ _ _ _ h => h.elim, fun _ _ _ _ _ _ _ _ _ _ _ _ _ h => h.elim⟩ (fun j h => absurd h (by omega)) (fun j h => absurd h (by omega))
  | d + 1 => ok_sw_step T hF (d + 1) _ _ ((ok_cw_step T d (ok_bw_step T d (ok_sw T hF d))).mono (by omega)) ((ok_bw_step T d (ok_sw T hF d)).mono (by omega)) (fun j h vs H Q E q => by
      obtain rfl : d = j := by omega
      exact q) (fun j h vs H Q E q => by
      obtain rfl : d = j := by omega
      exact q)
theorem ok_bw (T : Txt K mg file) (hF : FormsAt K w T.a_FORMS) (d : Nat) : FnOk P w K mg base CX0 (3 * d + 12) T.a_block_words T.fd_block_words ["block"] (spBW K d) := ok_bw_step T d (ok_sw T hF d)
theorem ok_rw (T : Txt K mg file) : FnOk P w K mg base CX0 1 T.a_row_words T.fd_row_words ["kind", "rows"] (spRW K) := by
  refine T.F_row_words.ok sc_row_words (fun vs H Q E h => ?_) (fun cdv A outer s H vs Q E hr h => ?_)
  · obtain ⟨v, k, rs, rfl, _⟩ := h
    rfl
  obtain ⟨v, k, rs, rfl, dx, g, hl, q⟩ := h
  refine ⟨_, (pss_cons (ps_set (i := 2) sc_row_words.nd rfl (Or.inl rfl) (pe_lst pa_nil))
    (pss_cons (ps_for PassesOwn.never rfl (pi_tup (pv 1)) (pg_tup rfl (pgs_cons (pg_name (i := 3) sc_row_words.nd rfl (Or.inl rfl)) (pgs_cons (pg_name (i := 4) sc_row_words.nd rfl (Or.inl rfl)) (pgs_cons (pg_name (i := 5) sc_row_words.nd rfl (Or.inl rfl)) pgs_nil))))
      (pss_one (ps_expr (pe_bm PySem.F.plainAttrs_list PySem.F.slot_list_extend PySem.F.type_list_extend mt_extend (pv 2) (pa_cons (pe_lst (pa_cons (pv 0) (pa_cons (pv 3) (pa_cons (pe_callTy call_str_int (by rfl) T.z_str (by decide +kernel) (pa_cons (pv 4) pa_nil)) (pa_cons (pe_callTy call_str_int (by rfl) T.z_str (by decide +kernel) (pa_cons (pv 5) pa_nil)) pa_nil))))) pa_nil)))))
    (pss_one (ps_ret (pv 2))))), ?_⟩
  refine ⟨by show 0 ≤ sizeLine; decide, fun L hL => ?_⟩
  have m0 := Gm.same_new hL (.lst [])
  unfold trips at dx
  cases dx with
  | @tup a vs ds hs ha =>
  have lv : vs.length = rs.length := (DpAll.len ha).trans (List.length_map _)
  refine ⟨_, rfl, a, rfl, ⟨_, sqT_mono m0 hs⟩, ?_⟩
  refine for_it walk_tup (fun t σ H' => (∃ y3 y4 y5, σ = [some (.str k), some (.ref a), some (.ref L), y3, y4, y5]) ∧ Same H H' ∧ H' L = some (.lst ((rowWords k (rs.take t)).map V.str))) ⟨⟨none, none, none, rfl⟩, m0, upd_same⟩ (fun t σ H' _ h => sqT_mono h.2.1 hs) ?_ ?_
  · rintro t y σ H1 H2 ht ⟨⟨y3, y4, y5, rfl⟩, m1, e1⟩ ⟨rfl, ey⟩
    obtain ⟨r, er⟩ : ∃ r, rs[t]? = some r := ⟨rs[t]'(by rw [← lv]; exact ht), List.getElem?_eq_getElem _⟩
    obtain ⟨y', ey', dy⟩ := DpAll.get ha (i := t) (d := trip r) (by rw [List.getElem?_map, er]; rfl)
    rw [ey] at ey'
    cases ey'
    have gr := List.all_eq_true.mp g r (List.mem_of_getElem? er)
    unfold rowGood small at gr
    rw [Bool.and_eq_true] at gr
    have g1 := of_decide_eq_true gr.1
    have g2 := of_decide_eq_true gr.2
    unfold trip at dy
    cases dy with
    | @tup b ws ds2 hs2 ha2 =>
    cases ha2 with
    | cons h1 h2 =>
    cases h1
    cases h2 with
    | cons h3 h4 =>
    cases h3
    cases h4 with
    | cons h5 h6 =>
    cases h5
    cases h6
    have ht2 : (rowWords k (rs.take t)).length ≤ (rowWords k rs).length := flatMap_len
    refine ⟨b, _, rfl, sqT_mono m1 hs2, rfl, _, _, rfl, _, _, rfl, _, _, rfl, rfl, ?_⟩
    refine ⟨_, rfl, .inl ⟨rfl, _, SqL.of e1⟩, _, rfl, _, rfl, _, rfl, _, rfl, small_log g1.1 g1.2, _, rfl, _, rfl, small_log g2.1 g2.2, by show 4 ≤ sizeLine; decide, fun L2 hL2 => ?_⟩
    have m3 := Gm.same_new hL2 (.lst [V.str k, V.str r.1, V.str (toString r.2.1), V.str (toString r.2.2)])
    refine ⟨L, L2, _, _, rfl, rfl, m3 _ _ e1, upd_same, ?_, ⟨_, _, _, rfl⟩, fun x o eb => ?_, ?_⟩
    · rw [List.length_map]
      exact Nat.le_trans (show (rowWords k (rs.take t)).length + 4 ≤ 2000000 by omega) (by decide)
    · rw [upd_ne (ne_of_none eb hL)]
      exact m3 _ _ (m1 _ _ eb)
    · have : rowWords k (rs.take (t + 1)) = rowWords k (rs.take t) ++ [k, r.1, numS r.2.1, numS r.2.2] := flatMap_take er
      rw [upd_same, this, List.map_append]
      rfl
  · rintro σ H1 ⟨⟨y3, y4, y5, rfl⟩, m1, e1⟩
    rw [lv, List.take_length] at e1
    exact ⟨_, rfl, q L H1 m1 hL e1⟩
end
end Toy
set_option Elab.async false
set_option linter.all false
set_option maxRecDepth 100000
set_option maxHeartbeats 4000000
namespace Toy
open PySem L2 Mine NdefX Gm Pz
section
variable {P : Program} {w : World} {K : PySem.W.Frag} {mg : Str → Option Value} {base : Heap} {file : Str}
theorem dp_strs_inv {H : Hp} : ∀ (xs : List Str) (vs : List V), DpAll K H vs (xs.map PyData.str) → vs = xs.map V.str := by
  intro xs
  induction xs with
  | nil => intro vs h; cases h; rfl
  | cons x xs ih =>
    intro vs h
    cases h with
    | cons h1 h2 =>
      cases h1
      rw [ih _ h2]
      rfl
theorem ok_pw (T : Txt K mg file) (hF : FormsAt K w T.a_FORMS) : FnOk P w K mg base CX0 31 T.a_proc_words T.fd_proc_words ["proc"] (spPW K) := by
  have G_expression_words : FnOk P w K mg base CX0 10 T.a_expression_words T.fd_expression_words ["expression"] (spEW K 8) := ok_ew T 8
  have G_block_words : FnOk P w K mg base CX0 30 T.a_block_words T.fd_block_words ["block"] (spBW K 6) := ok_bw T hF 6
  refine T.F_proc_words.ok sc_proc_words (fun vs H Q E h => ?_) (fun cdv A outer s H vs Q E hr h => ?_)
  · obtain ⟨v, p, rfl, _⟩ := h
    rfl
  obtain ⟨v, p, rfl, dx, g, hl, q⟩ := h
  refine ⟨_, (pss_cons (ps_asg (pv 0) (pg_tup rfl (pgs_cons (pg_name (i := 1) sc_proc_words.nd rfl (Or.inl rfl)) (pgs_cons (pg_name (i := 2) sc_proc_words.nd rfl (Or.inl rfl)) (pgs_cons (pg_name (i := 3) sc_proc_words.nd rfl (Or.inl rfl)) (pgs_cons (pg_name (i := 4) sc_proc_words.nd rfl (Or.inl rfl)) (pgs_cons (pg_name (i := 5) sc_proc_words.nd rfl (Or.inl rfl)) (pgs_cons (pg_name (i := 6) sc_proc_words.nd rfl (Or.inl rfl)) pgs_nil))))))))
    (pss_cons (ps_set (i := 7) sc_proc_words.nd rfl (Or.inl rfl) (pe_lst (pa_cons pe_str (pa_cons (pv 1) (pa_cons (pe_callTy call_str_int (by rfl) T.z_str (by decide +kernel) (pa_cons (pv 2) pa_nil)) (pa_cons (pe_callTy call_str_int (by rfl) T.z_str (by decide +kernel) (pa_cons (pv 3) pa_nil)) (pa_cons (pe_ix ix_tup (pv 4) pe_int (fun _ _ => rfl)) pa_nil)))))))
    (pss_cons (ps_for PassesOwn.never rfl (pi_tup (pe_slice (slTB K rfl) (pv 4) (po_some pe_int) po_none)) (pg_name (i := 8) sc_proc_words.nd rfl (Or.inl rfl))
      (pss_one (ps_expr (pe_bm PySem.F.plainAttrs_list PySem.F.slot_list_extend PySem.F.type_list_extend mt_extend (pv 7) (pa_cons (pe_lst (pa_cons pe_str (pa_cons (pv 8) pa_nil))) pa_nil)))))
    (pss_one (ps_ret (pe_lst (StX.pa_star (pv 7) (StX.pa_star (pe_call G_block_words (hr.mono (by decide)) rfl T.g_block_words T.k_block_words T.b_block_words .nil pass0 (pa_cons (pv 5) pa_nil)) (pa_cons pe_str (StX.pa_star (pe_call G_expression_words (hr.mono (by decide)) rfl T.g_expression_words T.k_expression_words T.b_expression_words .nil pass0 (pa_cons (pv 6) pa_nil)) (pa_cons pe_str pa_nil))))))))))), ?_⟩
  unfold Pr.d at dx
  unfold prGood small at g
  simp only [Bool.and_eq_true, decide_eq_true_eq] at g
  obtain ⟨⟨⟨⟨g1, g2⟩, g3⟩, g4⟩, g5⟩ := g
  cases dx with
  | @tup a xs ds hs ha =>
  cases ha with
  | cons h1 h2 =>
  cases h1
  cases h2 with
  | cons h3 h4 =>
  cases h3
  cases h4 with
  | cons h5 h6 =>
  cases h5
  cases h6 with
  | cons h7 h8 =>
  cases h8 with
  | cons h9 h10 =>
  cases h10 with
  | cons h11 h12 =>
  cases h12
  unfold strD at h7
  cases h7 with
  | @tup ai vi di hsi hai =>
  obtain rfl := dp_strs_inv _ _ hai
  obtain ⟨l0, rest, el⟩ : ∃ l0 rest, p.locs = l0 :: rest := by
    cases x : p.locs with
    | nil => rw [x] at g3; exact absurd g3 (by decide)
    | cons y ys => exact ⟨y, ys, rfl⟩
  have ew : prWords p = ((["proc", p.name, numS p.size, numS p.ans, l0] : List Str) ++ rest.flatMap (fun x => (["local", x] : List Str))) ++ (bWords p.block ++ (("answer" : Str) :: (eWords p.res ++ [("end" : Str)]))) := by
    unfold prWords
    rw [el]
    simp [moreLocals]
  rw [ew] at hl q
  rw [el] at hsi
  simp only [List.length_append, List.length_cons, List.length_nil] at hl
  have hsi : SqT K H ai (V.str l0 :: rest.map V.str) := hsi
  refine ⟨_, rfl, a, _, rfl, hs, rfl, _, _, rfl, _, _, rfl, _, _, rfl, _, _, rfl, _, _, rfl, _, _, rfl, rfl, ?_⟩
  refine ⟨_, rfl, _, rfl, _, rfl, small_log g1.1 g1.2, _, rfl, _, rfl, small_log g2.1 g2.2, _, rfl, ai, _, 0, _, rfl, rfl, hsi, atI_nat (j := 0) rfl, by show 5 ≤ sizeLine; decide, fun L hL => ?_⟩
  have m0 := Gm.same_new hL (.lst [V.str "proc", V.str p.name, V.str (toString p.size), V.str (toString p.ans), V.str l0])
  refine ⟨_, rfl, _, rfl, ai, _, rfl, sqT_mono m0 hsi, fun t H1 m1 ht => ?_⟩
  rw [cut_tail] at ht
  have m01 := m0.trans m1
  refine ⟨t, rfl, ⟨_, ht⟩, ?_⟩
  refine for_it walk_tup (fun n σ H' => (∃ y, σ = [some (.ref a), some (.str p.name), some (.int p.size), some (.int p.ans), some (.ref ai), some _, some _, some (.ref L), y]) ∧ Same H H' ∧ SqT K H' t (rest.map V.str) ∧ H' L = some (.lst (((["proc", p.name, numS p.size, numS p.ans, l0] : List Str) ++ (rest.take n).flatMap (fun x => (["local", x] : List Str))).map V.str))) ⟨⟨none, rfl⟩, m01, ht, m1 _ _ upd_same⟩ (fun _ _ _ _ h => h.2.2.1) ?_ ?_
  · rintro n y σ H2 H3 hn ⟨⟨y0, rfl⟩, m2, ht2, e2⟩ ⟨rfl, ey⟩
    rw [List.getElem?_map] at ey
    obtain ⟨x, ex, rfl⟩ := Option.map_eq_some_iff.mp ey
    have hx : (((rest.take n).flatMap (fun x => (["local", x] : List Str)))).length ≤ (rest.flatMap (fun x => (["local", x] : List Str))).length := flatMap_len
    refine ⟨_, rfl, .inl ⟨rfl, _, SqL.of e2⟩, _, rfl, by show 2 ≤ sizeLine; decide, fun L2 hL2 => ?_⟩
    have m3 := Gm.same_new hL2 (.lst [V.str "local", V.str x])
    refine ⟨L, L2, _, _, rfl, rfl, m3 _ _ e2, upd_same, ?_, ⟨_, rfl⟩, fun b o eb => ?_, ?_, ?_⟩
    · simp only [List.length_map, List.length_append, List.length_cons, List.length_nil]
      exact Nat.le_trans (show 0 + 1 + 1 + 1 + 1 + 1 + (((rest.take n).flatMap (fun x => (["local", x] : List Str)))).length + (0 + 1 + 1) ≤ 2000000 by omega) (by decide)
    · rw [upd_ne (ne_of_none eb hL)]
      exact m3 _ _ (m2 _ _ eb)
    · exact sqT_tups (Tups.lst (m3 _ _ e2)) (sqT_mono m3 ht2)
    · rw [upd_same, flatMap_take ex, ← List.append_assoc, List.map_append (l₂ := (["local", x] : List Str))]
      rfl
  · rintro σ H2 ⟨⟨y0, rfl⟩, m2, ht2, e2⟩
    rw [List.length_map, List.take_length] at e2
    refine ⟨_, rfl, L, _, rfl, .inr (SqL.of e2), ?_⟩
    refine ⟨_, rfl, _, p.block, rfl, dp_mono m2 _ _ h9, g4, by omega, fun L3 H4 m4 hL3 e4 => ?_⟩
    refine ⟨L3, _, rfl, .inr (SqL.of e4), ?_⟩
    refine ⟨_, rfl, _, p.res, rfl, dp_mono (m2.trans m4) _ _ h11, g5, by omega, fun L5 H6 m6 hL5 e6 => ?_⟩
    refine ⟨L5, _, rfl, .inr (SqL.of e6), ?_, fun r hr0 => ?_⟩
    · simp only [List.length_map, List.length_append, List.length_cons, List.length_nil]
      exact Nat.le_trans (show 0 + 1 + 1 + 1 + 1 + 1 + (rest.flatMap (fun x => (["local", x] : List Str))).length + ((bWords p.block).length + ((eWords p.res).length + (0 + 1) + 1)) ≤ 4000000 by omega) (by decide)
    · have mm := (m2.trans m4).trans m6
      refine q r _ (mm.trans (Gm.same_new hr0 _)) (none_of_same mm hr0) ?_
      rw [upd_same]
      simp only [List.map_append, List.map_cons, List.map_nil]
theorem ok_game_text (T : Txt K mg file) (hF : FormsAt K w T.a_FORMS) : FnOk P w K mg base CX0 32 T.a_game_text T.fd_game_text ["game"] (spText T.C_Game K) := by
  have G_row_words : FnOk P w K mg base CX0 1 T.a_row_words T.fd_row_words ["kind", "rows"] (spRW K) := ok_rw T
  have G_proc_words : FnOk P w K mg base CX0 31 T.a_proc_words T.fd_proc_words ["proc"] (spPW K) := ok_pw T hF
  refine T.F_game_text.ok sc_game_text (fun vs H Q E h => ?_) (fun cdv A outer s H vs Q E hr h => ?_)
  · obtain ⟨r, g, rfl, _⟩ := h
    rfl
  obtain ⟨r, g, rfl, hg, gg, hl, hsum, q⟩ := h
  refine ⟨_, (pss_cons (ps_set (i := 1) sc_game_text.nd rfl (Or.inl rfl) (pe_lst (StX.pa_star (pe_call G_row_words (hr.mono (by decide)) rfl T.g_row_words T.k_row_words T.b_row_words .nil pass0 (pa_cons pe_str (pa_cons (pe_fld (pv 0) rfl) pa_nil))) (StX.pa_star (pe_call G_row_words (hr.mono (by decide)) rfl T.g_row_words T.k_row_words T.b_row_words .nil pass0 (pa_cons pe_str (pa_cons (pe_fld (pv 0) rfl) pa_nil))) (StX.pa_star (pe_call G_row_words (hr.mono (by decide)) rfl T.g_row_words T.k_row_words T.b_row_words .nil pass0 (pa_cons pe_str (pa_cons (pe_fld (pv 0) rfl) pa_nil))) pa_nil)))))
    (pss_cons (ps_for PassesOwn.never rfl (pi_tup (pe_fld (pv 0) rfl)) (pg_name (i := 2) sc_game_text.nd rfl (Or.inl rfl))
      (pss_one (ps_expr (pe_bm PySem.F.plainAttrs_list PySem.F.slot_list_extend PySem.F.type_list_extend mt_extend (pv 1) (pa_cons (pe_call G_proc_words (hr.mono (by decide)) rfl T.g_proc_words T.k_proc_words T.b_proc_words .nil pass0 (pa_cons (pv 2) pa_nil)) pa_nil)))))
    (pss_one (ps_ret (pe_join pe_str (pv 1)))))), ?_⟩
  obtain ⟨dx, fs, v1, v2, v3, v4, e0, k1, k2, k3, k4, _, d1, d2, d3, d4⟩ := hg
  unfold gGood at gg
  simp only [Bool.and_eq_true] at gg
  obtain ⟨⟨⟨gg1, gg2⟩, gg3⟩, gg4⟩ := gg
  have hl0 := hl
  unfold gWords at hl0
  simp only [List.length_append] at hl0
  refine ⟨_, rfl, r, _, _, _, _, rfl, e0, T.cl_Game, T.na_Game_variables, k1, ?_⟩
  refine ⟨v1, "var", g.vars, rfl, d1, gg1, by omega, fun L1 H1 m1 hL1 e1 => ?_⟩
  refine ⟨L1, _, rfl, .inr (SqL.of e1), _, rfl, r, _, _, _, _, rfl, m1 _ _ e0, T.cl_Game, T.na_Game_tables, k2, ?_⟩
  refine ⟨v2, "table", g.tabs, rfl, dp_mono m1 _ _ d2, gg2, by omega, fun L2 H2 m2 hL2 e2 => ?_⟩
  refine ⟨L2, _, rfl, .inr (SqL.of e2), _, rfl, r, _, _, _, _, rfl, m2 _ _ (m1 _ _ e0), T.cl_Game, T.na_Game_lots, k3, ?_⟩
  have m12 := m1.trans m2
  refine ⟨v3, "lots", g.lots, rfl, dp_mono m12 _ _ d3, gg3, by omega, fun L3 H3 m3 hL3 e3 => ?_⟩
  have m13 := m12.trans m3
  refine ⟨L3, _, rfl, .inr (SqL.of e3), ?_, fun L hL => ?_⟩
  · simp only [List.length_map, List.length_append, List.length_nil]
    exact Nat.le_trans (show (rowWords "var" g.vars).length + ((rowWords "table" g.tabs).length + ((rowWords "lots" g.lots).length + 0)) ≤ 2000000 by omega) (by decide)
  have m4 := Gm.same_new hL (.lst ((rowWords "var" g.vars).map V.str ++ ((rowWords "table" g.tabs).map V.str ++ ((rowWords "lots" g.lots).map V.str ++ []))))
  have m14 := m13.trans m4
  unfold procsD at d4
  cases d4 with
  | @tup a vs ds hs ha =>
  have lv : vs.length = g.procs.length := (DpAll.len ha).trans (List.length_map _)
  refine ⟨_, rfl, r, _, _, _, _, rfl, m14 _ _ e0, T.cl_Game, T.na_Game_procs, k4, a, rfl, ⟨_, sqT_mono m14 hs⟩, ?_⟩
  refine for_it walk_tup (fun t σ H' => (∃ y, σ = [some (.ref r), some (.ref L), y]) ∧ Same H H' ∧ H' L = some (.lst ((rowWords "var" g.vars ++ rowWords "table" g.tabs ++ rowWords "lots" g.lots ++ (g.procs.take t).flatMap prWords).map V.str))) ⟨⟨none, rfl⟩, m14, ?_⟩ (fun t σ H' _ h => sqT_mono h.2.1 hs) ?_ ?_
  · rw [upd_same]
    simp only [List.map_append, List.take_zero, List.flatMap_nil, List.map_nil, List.append_nil, List.append_assoc]
  · rintro t y σ H5 H6 ht ⟨⟨y0, rfl⟩, m5, e5⟩ ⟨rfl, ey⟩
    obtain ⟨p, ep⟩ : ∃ p, g.procs[t]? = some p := ⟨g.procs[t]'(by rw [← lv]; exact ht), List.getElem?_eq_getElem _⟩
    obtain ⟨y', ey', dy⟩ := DpAll.get ha (i := t) (d := p.d) (by rw [List.getElem?_map, ep]; rfl)
    rw [ey] at ey'
    cases ey'
    have hz : (prWords p).length ≤ (g.procs.flatMap prWords).length := flatMap_one ep
    have ht2 : ((g.procs.take t).flatMap prWords).length ≤ (g.procs.flatMap prWords).length := flatMap_len
    refine ⟨_, rfl, .inl ⟨rfl, _, SqL.of e5⟩, _, rfl, _, p, rfl, dp_mono m5 _ _ dy, List.all_eq_true.mp gg4 p (List.mem_of_getElem? ep), by omega, fun L2 H7 m7 hL2' e7 => ?_⟩
    refine ⟨L, L2, _, _, rfl, rfl, m7 _ _ e5, e7, ?_, ⟨_, rfl⟩, fun b o eb => ?_, ?_⟩
    · simp only [List.length_map, List.length_append]
      exact Nat.le_trans (show (rowWords "var" g.vars).length + (rowWords "table" g.tabs).length + (rowWords "lots" g.lots).length + ((g.procs.take t).flatMap prWords).length + (prWords p).length ≤ 2000000 by omega) (by decide)
    · rw [upd_ne (ne_of_none eb (none_of_same m13 hL))]
      exact m7 _ _ (m5 _ _ eb)
    · rw [upd_same, flatMap_take ep, ← List.append_assoc, List.map_append (l₂ := prWords p)]
  · rintro σ H5 ⟨⟨y0, rfl⟩, m5, e5⟩
    rw [lv, List.take_length] at e5
    have e5 : H5 L = some (.lst ((gWords g).map V.str)) := e5
    refine ⟨⟨_, rfl⟩, _, rfl, _, L, gWords g, rfl, rfl, .inl (SqL.of e5), ?_, q H5 m5⟩
    have : (gWords g).length * (" " : Str).length = (gWords g).length := by
      rw [show (" " : Str).length = 1 from by decide +kernel, Nat.mul_one]
    rw [this]
    omega
end
end Toy
set_option Elab.async false
set_option linter.all false
set_option maxRecDepth 100000
set_option maxHeartbeats 4000000
namespace Toy
open PySem L2 Mine NdefX Gm Pz
def spCell (K : PySem.W.Frag) : Sp := fun vs H Q _ => ∃ (a : Addr) (ns : List Int) (k : Int), vs = [.ref a, .int k] ∧ SqL K H a (ns.map V.int) ∧ 0 ≤ k ∧ ∀ v : Int, Q (.int v) H
def spAt : Sp := fun vs H Q _ => ∃ x : Str, vs = [.str x] ∧ okAt x = true ∧ ∀ H', Same H H' → Q (.int (lawAt x)) H'
def tb_at (C B : Addr) (K : PySem.W.Frag) (te0 : Addr) : WX → TS := fun W => tAsg (tCallSD (spGame C B K) [.ref te0] (WE W) (tCons (tVar 0) tNil)) (gName 1)
def ts_at (B : Addr) : Addr → Value → Option Addr → TS := fun a cls d => tRet (tXf a cls d B "at" (tVar 2))
section
variable {P : Program} {w : World} {K : PySem.W.Frag} {mg : Str → Option Value} {base : Heap} {file : Str}
theorem ok_cell (T : Txt K mg file) : FnOk P w K mg base CX0 1 T.a_law_cell T.fd_law_cell ["script", "k"] (spCell K) := by
  refine T.F_law_cell.ok sc_law_cell (fun vs H Q E h => ?_) (fun cdv A outer s H vs Q E hr h => ?_)
  · obtain ⟨a, ns, k, rfl, _⟩ := h
    rfl
  obtain ⟨a, ns, k, rfl, hS, h0, q⟩ := h
  refine ⟨_, (pss_cons (ps_if (pt_cmpR op_lt (pv 1) (pe_callB call_len_seq (by rfl) T.z_len (by decide +kernel) (pa_cons (pv 0) pa_nil)) (nomark _))
      (pss_one (ps_ret (pe_ix ix_list (pv 0) (pv 1) (fun _ _ => rfl))))
      pss_nil)
    (pss_one (ps_ret pe_int))), ?_⟩
  refine ⟨_, rfl, _, rfl, a, _, rfl, .inl hS, _, _, rfl, rfl, _, rfl, ?_⟩
  refine ite2 (fun c => ?_) (fun c => ?_)
  · have c' := of_decide_eq_true c
    rw [List.length_map] at c'
    have hk : k.toNat < ns.length := by omega
    have e : atI (ns.map V.int) k = some (.int ns[k.toNat]) := at_of (j := k.toNat) (by omega) (by rw [List.getElem?_map, List.getElem?_eq_getElem hk] <;> rfl)
    exact ⟨_, rfl, _, rfl, a, _, _, _, rfl, rfl, hS, e, q _⟩
  · exact q 0
theorem ok_at (hP : PrF P file) (T : Txt K mg file) (hF : FormsAt K w T.a_FORMS) : FnOk P w K mg base CX0 40 T.a_law_at T.fd_law_at ["text"] spAt := by
  have G_read_game : FnOk P w K mg base (L2.CX P w) 38 T.a_read_game T.fd_read_game ["text", "asked"] (spGame T.C_Game T.C_BadText K) := ok_read_game hP T hF
  have G_game_text : FnOk P w K mg base CX0 32 T.a_game_text T.fd_game_text ["game"] (spText T.C_Game K) := ok_game_text T hF
  refine T.F_law_at.ok sc_law_at (fun vs H Q E h => ?_) (fun cdv A outer s H vs Q E hr h => ?_)
  · obtain ⟨x, rfl, _⟩ := h
    rfl
  obtain ⟨x, rfl, ok, q⟩ := h
  refine ⟨_, (pss_cons (ps_try_as (i := 2) (tb := tb_at T.C_Game T.C_BadText K T.te0_read_game) (ts := ts_at T.C_BadText) (Wout := fun _ _ _ _ => False) rfl rfl sc_law_at.nd rfl rfl ⟨rfl, by decide, Or.inl T.g_BadText⟩ takes0
      (fun W pn xe tk _ => pss_one (ps_set (i := 1) sc_law_at.nd rfl (Or.inl rfl) (by exact (pe_callSD G_read_game (hr.mono (by decide)) rfl T.g_read_game T.k_read_game T.db0_read_game T.dv0_read_game (fun σ => passAt tk σ) (by exact (pa_cons (pv 0) pa_nil))))))
      (fun a oe cls d pn hz hf => by exact (pss_one (ps_ret (pe_xf ⟨T.xga_BadText, T.xgg_BadText, T.xb_BadText, T.xd_BadText⟩ T.E_BadText.no hz hf (pv 2))))))
    (pss_cons (ps_if (pt_cmpR op_ne (pe_call G_game_text (hr.mono (by decide)) rfl T.g_game_text T.k_game_text T.b_game_text .nil pass0 (pa_cons (pv 1) pa_nil)) (pv 0) (nomark _))
      (pss_one (ps_ret (pe_un un_neg pe_int)))
      pss_nil)
    (pss_one (ps_ret (pe_un un_neg pe_int))))), ?_⟩
  unfold okAt at ok
  simp only [Bool.and_eq_true, decide_eq_true_eq, List.all_eq_true] at ok
  obtain ⟨⟨⟨h1, h2⟩, h3⟩, h4⟩ := ok
  refine ⟨_, rfl, x, T.te0_read_game, [], rfl, h1, h2, h3, T.qe0_read_game H, (fun w hw => by cases hw), (by decide), ?_⟩
  unfold lawAt at q
  show match pGame (toWords x) [] with
    | .ok g => _
    | .error j => _
  cases hp : pGame (toWords x) [] with
  | error j =>
    rw [hp] at q
    intro d H' sm hd
    refine ⟨true, PySem.W.exm_ref T.xb_BadText T.xd_BadText T.xt_BadText T.sub_tt, fun _ a na => ?_, fun z => Bool.noConfusion z⟩
    exact ⟨_, rfl, rfl, rfl, d, _, _, rfl, hd, rfl, q _ sm⟩
  | ok g =>
    rw [hp] at q h4
    simp only [Bool.and_eq_true, decide_eq_true_eq] at h4
    obtain ⟨⟨g1, g2⟩, g3⟩ := h4
    intro r H' sm hg
    refine ⟨_, rfl, r, g, rfl, hg, g1, g2, g3, fun H2 s2 => ⟨_, rfl, rfl, _, rfl, ?_⟩⟩
    by_cases c : gText g = x
    · refine ite_no (by rw [c]; simp) ?_
      simp only [if_pos c] at q
      exact ⟨_, rfl, q H2 (sm.trans s2)⟩
    · refine ite_yes (by simp [c]) ?_
      simp only [if_neg c] at q
      exact ⟨_, rfl, q H2 (sm.trans s2)⟩
end
end Toy
set_option Elab.async false
set_option linter.all false
set_option maxRecDepth 100000
set_option maxHeartbeats 4000000
namespace Toy
open PySem L2 Mine NdefX Gm Pz
def spMany : Sp := fun vs H Q _ => ∃ (h p r : Addr) (hd parts rest : List Str) (n most : Nat), vs = [.ref h, .ref p, .int n, .int most, .ref r] ∧ H h = some (.lst (hd.map V.str)) ∧ H p = some (.lst (parts.map V.str)) ∧ H r = some (.lst (rest.map V.str)) ∧
  n ≤ 10 ∧ hd.length ≤ 10 ∧ parts.length ≤ 10 ∧ rest.length ≤ 10 ∧ (∀ x ∈ parts, x.length ≤ 10) ∧ okMany hd parts n most rest = true ∧ ∀ H', Same H H' → Q (.bl true) H'
def spDeep : Sp := fun vs H Q _ => ∃ (p r : Addr) (parts rest : List Str) (n most steps : Nat), vs = [.ref p, .int n, .int most, .ref r, .int steps] ∧ H p = some (.lst (parts.map V.str)) ∧ H r = some (.lst (rest.map V.str)) ∧
  n ≤ 10 ∧ parts.length ≤ 10 ∧ rest.length ≤ 10 ∧ most ≤ 100 ∧ steps ≤ 100 ∧ okDeep parts n most rest steps = true ∧ ∀ H', Same H H' → Q (.bl true) H'
def spTall : Sp := fun vs H Q _ => ∃ (n : Nat), vs = [.int n] ∧ n ≤ 10 ∧ okTall n = true ∧ ∀ H', Same H H' → Q (.bl true) H'
theorem manyW_len (hd parts : List Str) : ∀ n, (manyW hd parts n).length = hd.length + n * parts.length
  | 0 => by simp [manyW]
  | n + 1 => by rw [manyW, List.length_append, manyW_len hd parts n, List.length_map, Nat.succ_mul, Nat.add_assoc]
theorem manyW_le {hd parts : List Str} {n : Nat} (h1 : n ≤ 10) (h2 : hd.length ≤ 10) (h3 : parts.length ≤ 10) : (manyW hd parts n).length ≤ 110 := by
  rw [manyW_len]
  have : n * parts.length ≤ 10 * 10 := Nat.mul_le_mul h1 h3
  omega
theorem rep_map {α β : Type} (f : α → β) (n : Nat) (xs : List α) : (List.replicate n (xs.map f)).flatten = ((List.replicate n xs).flatten).map f := by
  rw [List.map_flatten, List.map_replicate]
theorem hash_ne (d : Str) (h : 0 < d.length) : (("#" : Str) == "n" ++ d) = false := by
  rw [Bool.eq_false_iff]
  intro z
  have e := congrArg Str.length (eq_of_beq z)
  rw [Str.length_append] at e
  have h1 : ("#" : Str).length = 1 := by decide +kernel
  have h2 : ("n" : Str).length = 1 := by decide +kernel
  omega
/-- small numbers, written -/
theorem num_len : ∀ i : Nat, i < 10 → (Str.ofString (toString (i : Int))).length = 1 := by decide +kernel
section
variable {P : Program} {w : World} {K : PySem.W.Frag} {mg : Str → Option Value} {base : Heap} {file : Str}
theorem ok_many (hP : PrF P file) (T : Txt K mg file) (hF : FormsAt K w T.a_FORMS) : FnOk P w K mg base CX0 42 T.a_law_many T.fd_law_many ["head", "parts", "count", "most", "rest"] spMany := by
  have G_law_at : FnOk P w K mg base CX0 40 T.a_law_at T.fd_law_at ["text"] spAt := ok_at hP T hF
  refine T.F_law_many.ok sc_law_many (fun vs H Q E h => ?_) (fun cdv A outer s H vs Q E hr h => ?_)
  · obtain ⟨h, p, r, hd, parts, rest, n, most, rfl, _⟩ := h
    rfl
  obtain ⟨h, p, r, hd, parts, rest, n, most, rfl, eh, ep, er, hn, hhd, hpa, hre, hlen, ok, q⟩ := h
  refine ⟨_, (pss_cons (ps_set (i := 5) sc_law_many.nd rfl (Or.inl rfl) (pe_callTy call_list_of (by rfl) T.z_list (by decide +kernel) (pa_cons (pv 0) pa_nil)))
    (pss_minus (i := 6) sc_law_many.nd rfl (Or.inl rfl)
      (psst_cons (pst_loop PassesOwn.never rfl (pi_range1 (by rfl) T.z_range (pa_cons (pv 2) pa_nil)) (pg_name (i := 7) sc_law_many.nd rfl (Or.inr rfl))
        (psst_cons (PST.of (ps_if (pt_cmpR op_eq (pv 7) (pv 3) (nomark _))
            (pss_one (ps_set (i := 6) sc_law_many.nd rfl (Or.inl rfl) (pe_callB call_len_seq (by rfl) T.z_len (by decide +kernel) (pa_cons (pv 5) pa_nil))))
            pss_nil))
          (psst_cons (pst_name (i := 5) sc_law_many.nd rfl (Or.inl rfl) (pet_two op_cat (pet_of (pv 5))
              (pet_lcX (W := fun _ _ _ _ => False) (E := fun _ _ _ => False) (own := [("part", 8)]) (g := gName 8) (tt := tYes) takes0 (fun _ _ _ _ z => z) rfl rfl rfl sc_law_many.nd (pi_list (pv 1))
                (blkOk_by (own := [("part", 8)]) (N := ["head", "parts", "count", "most", "rest", "words", "due", "k", "part"]) (sc := defScope s_law_many) (by decide +kernel))
                (fun _ _ _ _ _ => pg_name (i := 8) sc_law_many.nd rfl (Or.inl rfl)) (fun _ _ _ _ _ => pts_nil)
                (fun _ _ _ _ _ => pet_repN (pv 8) (pe_callTy call_str_int (by rfl) T.z_str (by decide +kernel) (pa_cons (pv 7) pa_nil)))))) psst_end)))
        (PSsT.of (pss_one (ps_ret (pe_cmpR op_eq (pe_call G_law_at (hr.mono (by decide)) rfl T.g_law_at T.k_law_at T.b_law_at .nil pass0 (pa_cons (pe_join pe_str (pe_op op_cat (pv 5) (pv 4))) pa_nil)) (pv 6) (nomark _)))))))), ?_⟩
  unfold okMany at ok
  simp only [Bool.and_eq_true, decide_eq_true_eq] at ok
  obtain ⟨⟨o1, o2⟩, o3⟩ := ok
  unfold okJ at o1
  have o1 := of_decide_eq_true o1
  have big : 1000 ≤ sizeLine := by decide
  refine ⟨_, rfl, h, _, rfl, .inl (SqL.of eh), fun l0 n0 => ?_⟩
  refine ⟨_, rfl, (n : Int), rfl, (by omega), (by omega), ?_⟩
  rw [Int.toNat_natCast]
  refine for_range (lo := 0) (fun i σ H' => Same H H' ∧ ∃ (lw : Addr) (kv pv : Option V), σ = [some (.ref h), some (.ref p), some (.int n), some (.int most), some (.ref r), some (.ref lw), some (.int (dueM hd parts i most)), kv, pv] ∧ H' lw = some (.lst ((manyW hd parts i).map V.str)))
    ⟨Gm.same_new n0 _, l0, none, none, rfl, upd_same⟩ ?_ ?_
  · rintro i σ H1 hi ⟨m1, lw, kv, pv, rfl, e1⟩
    have ez : (0 : Int) + (i : Int) = (i : Int) := Int.zero_add _
    rw [ez]
    have fin : ∀ (due : Int), due = dueM hd parts (i + 1) most → ∀ kv2 : Option V, tAsg (tOp rCat (tVar 5) (tLc (iList K (tVar 1)) (gName 8) tYes (tRepN (tVar 8) (tCB (fun xs H Q => ∃ i : Int, xs = [.int i] ∧ i.natAbs.log2 < 1920 ∧ Q (.str (toString i)) H) (tCons (tVar 7) tNil)) "#" "n") [8])) (gName 5)
        { nx := fun σ H' => Same H H' ∧ ∃ (lw : Addr) (kv pv : Option V), σ = [some (.ref h), some (.ref p), some (.int n), some (.int most), some (.ref r), some (.ref lw), some (.int (dueM hd parts (i + 1) most)), kv, pv] ∧ H' lw = some (.lst ((manyW hd parts (i + 1)).map V.str)), rt := Q }
        [some (.ref h), some (.ref p), some (.int n), some (.int most), some (.ref r), some (.ref lw), some (.int due), some (.int (i : Int)), kv2] H1 := by
      intro due ed kv2
      refine ⟨_, rfl, _, rfl, p, rfl, ⟨_, SqL.of (m1 _ _ ep)⟩, fun D hD => ?_⟩
      refine lc_it walk_list (fun t H' => Same H1 H' ∧ H' D = some (.lst (((parts.map (inst i)).take t).map V.str))) ⟨Gm.same_new hD _, upd_same⟩ (fun _ H' _ h => h.1.seq (SqL.of (m1 _ _ ep))) ?_ ?_
      · rintro t x H2 H3 ht ⟨m2, e2⟩ ⟨rfl, ex⟩
        refine ⟨rfl, ?_⟩
        rw [List.getElem?_map] at ex
        obtain ⟨y, ey, rfl⟩ := Option.map_eq_some_iff.mp ex
        have ly := hlen y (List.mem_of_getElem? ey)
        have ld := num_len i (by omega)
        have ln : ("n" : Str).length = 1 := by decide +kernel
        refine ⟨_, rfl, y, rfl, _, rfl, (i : Int), rfl, (small_log (by omega) (by omega)), Str.ofString (toString (i : Int)), rfl, by rw [ln]; decide, by rw [ld]; decide, by rw [ln, ld]; decide, hash_ne _ (by rw [ld]; decide), ?_, ?_⟩
        · rw [Str.length_append, ln, ld]
          omega
        refine ⟨_, e2, ?_, fun b o z => ?_, ?_⟩
        · rw [List.length_map, List.length_take, List.length_map]
          exact Nat.lt_of_le_of_lt (Nat.le_trans (Nat.min_le_right _ _) hpa) (by decide)
        · rw [upd_ne (ne_of_none z hD)]
          exact m2 b o z
        · rw [upd_same]
          have e3 : (parts.map (inst i))[t]? = some (inst i y) := by rw [List.getElem?_map, ey]; rfl
          rw [← tk_next V.str (parts.map (inst i)) e3]
          rfl
      · intro H2 ⟨m2, e2⟩
        have el : (parts.map V.str).length = (parts.map (inst i)).length := by rw [List.length_map, List.length_map]
        rw [el, List.take_length] at e2
        have w1 := manyW_le (hd := hd) (parts := parts) (n := i) (by omega) hhd hpa
        refine ⟨lw, D, _, _, rfl, rfl, m2 _ _ e1, e2, ?_, fun p2 n2 => ?_⟩
        · simp only [List.length_map]
          omega
        refine ⟨m1.trans (m2.trans (Gm.same_new n2 _)), p2, _, _, by rw [ed]; rfl, ?_⟩
        rw [upd_same, manyW, List.map_append]
    refine ⟨_, rfl, _, rfl, rfl, _, rfl, ?_⟩
    refine ite2 (fun c => ?_) (fun c => ?_)
    · have c' : (i : Int) = most := V.int.inj (of_decide_eq_true c)
      have c' : i = most := by omega
      refine ⟨_, rfl, lw, _, rfl, .inl (SqL.of e1), ?_⟩
      refine fin _ ?_ _
      unfold dueM
      rw [if_pos (by omega), List.length_map, c']
    · have c' : ¬ i = most := fun z => c (decide_eq_true (congrArg V.int (by omega)))
      refine fin _ ?_ _
      unfold dueM
      by_cases c2 : most < i
      · rw [if_pos c2, if_pos (by omega)]
      · rw [if_neg c2, if_neg (by omega)]
  · rintro σ H1 ⟨m1, lw, kv, pv, rfl, e1⟩
    have w1 := manyW_le hn hhd hpa
    refine ⟨⟨_, rfl⟩, _, rfl, _, rfl, lw, r, _, _, rfl, rfl, e1, m1 _ _ er, ?_, fun l2 n2 => ?_⟩
    · simp only [List.length_map]
      omega
    have s2 := Gm.same_new n2 (HO.lst ((manyW hd parts n).map V.str ++ rest.map V.str))
    refine ⟨" ", l2, manyW hd parts n ++ rest, rfl, rfl, .inl (SqL.of (by rw [List.map_append]; exact upd_same)), o1, ?_⟩
    refine ⟨_, rfl, o2, fun H3 s3 => ⟨_, rfl, rfl, ?_⟩⟩
    have e : decide (V.int (lawAt (Txt.join " " (manyW hd parts n ++ rest))) = V.int (dueM hd parts n most)) = true := decide_eq_true (congrArg V.int o3)
    show Q (.bl (decide (V.int (lawAt (Txt.join " " (manyW hd parts n ++ rest))) = V.int (dueM hd parts n most)))) _
    rw [e]
    exact q _ (m1.trans (s2.trans s3))
end
end Toy
set_option Elab.async false
set_option linter.all false
set_option maxRecDepth 100000
set_option maxHeartbeats 4000000
namespace Toy
open PySem L2 Mine NdefX Gm Pz
theorem flat_len {α : Type} (n : Nat) (xs : List α) : (List.replicate n xs).flatten.length = n * xs.length := by
  rw [List.length_flatten, List.map_replicate, List.sum_replicate_nat]
section
variable {P : Program} {w : World} {K : PySem.W.Frag} {mg : Str → Option Value} {base : Heap} {file : Str}
theorem ok_deep (hP : PrF P file) (T : Txt K mg file) (hF : FormsAt K w T.a_FORMS) : FnOk P w K mg base CX0 42 T.a_law_deep T.fd_law_deep ["parts", "count", "most", "rest", "steps"] spDeep := by
  have G_law_at : FnOk P w K mg base CX0 40 T.a_law_at T.fd_law_at ["text"] spAt := ok_at hP T hF
  refine T.F_law_deep.ok sc_law_deep (fun vs H Q E h => ?_) (fun cdv A outer s H vs Q E hr h => ?_)
  · obtain ⟨p, r, parts, rest, n, most, steps, rfl, _⟩ := h
    rfl
  obtain ⟨p, r, parts, rest, n, most, steps, rfl, ep, er, hn, hpa, hre, hmo, hst, ok, q⟩ := h
  refine ⟨_, (pss_cons (ps_set (i := 5) sc_law_deep.nd rfl (Or.inl rfl) (pe_lst (pa_cons pe_str (pa_cons pe_str (pa_cons pe_str (pa_cons pe_str (pa_cons pe_str pa_nil)))))))
    (pss_cons (ps_set (i := 6) sc_law_deep.nd rfl (Or.inl rfl) (pe_un un_neg pe_int))
    (pss_cons (ps_if (pt_cmpR op_gt (pv 1) (pv 2) (nomark _))
      (pss_one (ps_set (i := 6) sc_law_deep.nd rfl (Or.inl rfl) (pe_op op_add (pe_callB call_len_seq (by rfl) T.z_len (by decide +kernel) (pa_cons (pv 5) pa_nil)) (pe_op op_mulW (pv 4) (pv 2)))))
      pss_nil)
    (pss_one (ps_ret (pe_cmpR op_eq (pe_call G_law_at (hr.mono (by decide)) rfl T.g_law_at T.k_law_at T.b_law_at .nil pass0 (pa_cons (pe_join pe_str (pe_op op_cat (pe_op op_cat (pe_op op_cat (pv 5) (pe_op op_rep (pv 0) (pv 1))) (pe_op op_rep (pe_lst (pa_cons pe_str pa_nil)) (pv 1))) (pv 3))) pa_nil)) (pv 6) (nomark _))))))), ?_⟩
  unfold okDeep at ok
  simp only [Bool.and_eq_true, decide_eq_true_eq] at ok
  obtain ⟨⟨o1, o2⟩, o3⟩ := ok
  unfold okJ at o1
  have o1 := of_decide_eq_true o1
  have big : 1000 ≤ sizeLine := by decide
  have hm : n * parts.length ≤ 10 * 10 := Nat.mul_le_mul hn hpa
  have hsm : steps * most ≤ 100 * 100 := Nat.mul_le_mul hst hmo
  refine ⟨(by show 5 ≤ sizeLine; decide), fun l0 n0 => ?_⟩
  have s0 := Gm.same_new n0 (HO.lst [V.str "proc", V.str "p", V.str "1", V.str "1", V.str "g"])
  have e0 : (upd H l0 (HO.lst [V.str "proc", V.str "p", V.str "1", V.str "1", V.str "g"])) l0 = some (.lst [V.str "proc", V.str "p", V.str "1", V.str "1", V.str "g"]) := upd_same
  generalize upd H l0 (HO.lst [V.str "proc", V.str "p", V.str "1", V.str "1", V.str "g"]) = H0 at s0 e0 ⊢
  have e0 : H0 l0 = some (.lst ((["proc", "p", "1", "1", "g"] : List Str).map V.str)) := e0
  refine ⟨_, rfl, ?_⟩
  have fin : ∀ due : Int, due = dueD n most steps → tRet (tOp rEq (tCall spAt [] E0 (tCons (tM1 (fun x xs H Q => ∃ a p, ∃ ys : List Str, x = .str a ∧ xs = [.ref p] ∧ (SqL K H p (ys.map V.str) ∨ SqT K H p (ys.map V.str)) ∧
      (ys.map (·.length)).sum + ys.length * a.length ≤ 16777216 ∧ Q (.str (Txt.join a ys)) H) (tC (.str " ")) (tOp rCat (tOp rCat (tOp rCat (tVar 5) (tOp rRep (tVar 0) (tVar 1))) (tOp rRep (tLst (tCons (tC (.str "end")) tNil)) (tVar 1))) (tVar 3))) tNil)) (tVar 6))
      { nx := fun _ H' => Q .non H', rt := Q } [some (.ref p), some (.int n), some (.int most), some (.ref r), some (.int steps), some (.ref l0), some (.int due)] H0 := by
    intro due ed
    have ep0 := s0 _ _ ep
    have er0 := s0 _ _ er
    refine ⟨⟨_, rfl⟩, _, rfl, _, rfl, _, rfl, p, n, _, rfl, rfl, ep0, by omega, by omega, ?_, fun p1 n1 => ?_⟩
    · rw [List.length_map, Int.toNat_natCast, Nat.mul_comm]
      omega
    have s1 := Gm.same_new n1 (HO.lst (List.replicate (n : Int).toNat (parts.map V.str)).flatten)
    refine ⟨l0, p1, _, _, rfl, rfl, s1 _ _ e0, upd_same, ?_, fun p2 n2 => ?_⟩
    · rw [Int.toNat_natCast, rep_map, List.length_map, List.length_map, List.length_flatten, List.map_replicate, List.sum_replicate_nat]
      show 5 + _ ≤ _
      omega
    have s2 := Gm.same_new n2 (HO.lst ((["proc", "p", "1", "1", "g"] : List Str).map V.str ++ (List.replicate (n : Int).toNat (parts.map V.str)).flatten))
    refine ⟨by show 1 ≤ _; omega, fun p3 n3 => ?_⟩
    have s3 := Gm.same_new n3 (HO.lst [V.str "end"])
    refine ⟨_, rfl, p3, n, _, rfl, rfl, upd_same, by omega, by omega, ?_, fun p4 n4 => ?_⟩
    · rw [Int.toNat_natCast]
      show 1 * n ≤ _
      omega
    have s4 := Gm.same_new n4 (HO.lst (List.replicate (n : Int).toNat [V.str "end"]).flatten)
    refine ⟨p2, p4, _, _, rfl, rfl, s4 _ _ (s3 _ _ upd_same), upd_same, ?_, fun p5 n5 => ?_⟩
    · rw [Int.toNat_natCast, List.length_append, flat_len, flat_len, List.length_map, List.length_map]
      show 5 + _ + n * 1 ≤ _
      omega
    have s5 := Gm.same_new n5 (HO.lst (((["proc", "p", "1", "1", "g"] : List Str).map V.str ++ (List.replicate (n : Int).toNat (parts.map V.str)).flatten) ++ (List.replicate (n : Int).toNat [V.str "end"]).flatten))
    have sr := s1.trans (s2.trans (s3.trans (s4.trans s5)))
    refine ⟨_, rfl, p5, r, _, _, rfl, rfl, upd_same, sr _ _ er0, ?_, fun p6 n6 => ?_⟩
    · rw [Int.toNat_natCast, List.length_append, List.length_append, flat_len, flat_len, List.length_map, List.length_map, List.length_map]
      show 5 + _ + n * 1 + _ ≤ _
      omega
    have s6 := Gm.same_new n6 (HO.lst ((((["proc", "p", "1", "1", "g"] : List Str).map V.str ++ (List.replicate (n : Int).toNat (parts.map V.str)).flatten) ++ (List.replicate (n : Int).toNat [V.str "end"]).flatten) ++ rest.map V.str))
    refine ⟨" ", p6, deepW parts n rest, rfl, rfl, .inl (SqL.of ?_), o1, ?_⟩
    · rw [upd_same]
      have z : ([V.str "end"] : List V) = (["end"] : List Str).map V.str := rfl
      rw [Int.toNat_natCast, z, rep_map, rep_map, ← List.map_append, ← List.map_append, ← List.map_append]
      rfl
    refine ⟨_, rfl, o2, fun H3 s7 => ⟨_, rfl, rfl, ?_⟩⟩
    have e : decide (V.int (lawAt (Txt.join " " (deepW parts n rest))) = V.int due) = true := decide_eq_true (congrArg V.int (o3.trans ed.symm))
    show Q (.bl (decide (V.int (lawAt (Txt.join " " (deepW parts n rest))) = V.int due))) _
    rw [e]
    exact q _ (s0.trans (sr.trans (s6.trans s7)))
  refine ⟨_, rfl, _, rfl, _, _, rfl, rfl, _, rfl, ?_⟩
  refine ite2 (fun c => ?_) (fun c => ?_)
  · have c' : most < n := by have := of_decide_eq_true c; omega
    refine ⟨_, rfl, l0, _, rfl, .inl (SqL.of e0), _, rfl, _, rfl, _, _, rfl, rfl, ?_, _, _, rfl, rfl, ?_⟩
    · exact wide_mul (a := 20) (b := 20) (by show (steps : Int).natAbs < 1048576; omega) (by show (most : Int).natAbs < 1048576; omega) (by decide) (by decide) (by decide)
    refine fin _ ?_
    unfold dueD
    rw [if_pos c']
    rfl
  · refine fin _ ?_
    unfold dueD
    rw [if_neg (fun z => c (decide_eq_true (by omega)))]
theorem ok_tall (hP : PrF P file) (T : Txt K mg file) (hF : FormsAt K w T.a_FORMS) : FnOk P w K mg base CX0 42 T.a_law_tall T.fd_law_tall ["count"] spTall := by
  have G_law_at : FnOk P w K mg base CX0 40 T.a_law_at T.fd_law_at ["text"] spAt := ok_at hP T hF
  refine T.F_law_tall.ok sc_law_tall (fun vs H Q E h => ?_) (fun cdv A outer s H vs Q E hr h => ?_)
  · obtain ⟨n, rfl, _⟩ := h
    rfl
  obtain ⟨n, rfl, hn, ok, q⟩ := h
  refine ⟨_, (pss_cons (ps_set (i := 1) sc_law_tall.nd rfl (Or.inl rfl) (pe_lst (pa_cons pe_str (pa_cons pe_str (pa_cons pe_str (pa_cons pe_str (pa_cons pe_str (pa_cons pe_str pa_nil))))))))
    (pss_cons (ps_set (i := 2) sc_law_tall.nd rfl (Or.inl rfl) (pe_un un_neg pe_int))
    (pss_cons (ps_if (pt_cmpR op_gt (pv 0) pe_int (nomark _))
      (pss_one (ps_set (i := 2) sc_law_tall.nd rfl (Or.inl rfl) (pe_op op_add (pe_callB call_len_seq (by rfl) T.z_len (by decide +kernel) (pa_cons (pv 1) pa_nil)) pe_int)))
      pss_nil)
    (pss_one (ps_ret (pe_cmpR op_eq (pe_call G_law_at (hr.mono (by decide)) rfl T.g_law_at T.k_law_at T.b_law_at .nil pass0 (pa_cons (pe_join pe_str (pe_op op_cat (pe_op op_cat (pe_op op_cat (pv 1) (pe_op op_rep (pe_lst (pa_cons pe_str pa_nil)) (pv 0))) (pe_op op_rep (pe_lst (pa_cons pe_str pa_nil)) (pe_op op_add (pv 0) pe_int))) (pe_lst (pa_cons pe_str pa_nil)))) pa_nil)) (pv 2) (nomark _))))))), ?_⟩
  unfold okTall at ok
  simp only [Bool.and_eq_true, decide_eq_true_eq] at ok
  obtain ⟨⟨o1, o2⟩, o3⟩ := ok
  unfold okJ at o1
  have o1 := of_decide_eq_true o1
  have big : 1000 ≤ sizeLine := by decide
  refine ⟨(by show 6 ≤ sizeLine; decide), fun l0 n0 => ?_⟩
  have s0 := Gm.same_new n0 (HO.lst [V.str "proc", V.str "p", V.str "1", V.str "1", V.str "g", V.str "answer"])
  have e0 : (upd H l0 (HO.lst [V.str "proc", V.str "p", V.str "1", V.str "1", V.str "g", V.str "answer"])) l0 = some (.lst [V.str "proc", V.str "p", V.str "1", V.str "1", V.str "g", V.str "answer"]) := upd_same
  generalize upd H l0 (HO.lst [V.str "proc", V.str "p", V.str "1", V.str "1", V.str "g", V.str "answer"]) = H0 at s0 e0 ⊢
  have e0 : H0 l0 = some (.lst ((["proc", "p", "1", "1", "g", "answer"] : List Str).map V.str)) := e0
  refine ⟨_, rfl, ?_⟩
  have en : ((n : Int) + 1).toNat = n + 1 := by omega
  have fin : ∀ due : Int, due = dueT n → tRet (tOp rEq (tCall spAt [] E0 (tCons (tM1 (fun x xs H Q => ∃ a p, ∃ ys : List Str, x = .str a ∧ xs = [.ref p] ∧ (SqL K H p (ys.map V.str) ∨ SqT K H p (ys.map V.str)) ∧
      (ys.map (·.length)).sum + ys.length * a.length ≤ 16777216 ∧ Q (.str (Txt.join a ys)) H) (tC (.str " ")) (tOp rCat (tOp rCat (tOp rCat (tVar 1) (tOp rRep (tLst (tCons (tC (.str "+")) tNil)) (tVar 0))) (tOp rRep (tLst (tCons (tC (.str "g")) tNil)) (tOp (rI0 fun i j => .int (i + j)) (tVar 0) (tC (.int 1))))) (tLst (tCons (tC (.str "end")) tNil)))) tNil)) (tVar 2))
      { nx := fun _ H' => Q .non H', rt := Q } [some (.int n), some (.ref l0), some (.int due)] H0 := by
    intro due ed
    refine ⟨⟨_, rfl⟩, _, rfl, by show 1 ≤ _; omega, fun p0 n0' => ?_⟩
    have s0' := Gm.same_new n0' (HO.lst [V.str "+"])
    refine ⟨_, rfl, p0, n, _, rfl, rfl, upd_same, by omega, by omega, ?_, fun p1 n1 => ?_⟩
    · rw [Int.toNat_natCast]
      show 1 * n ≤ _
      omega
    have s1 := Gm.same_new n1 (HO.lst (List.replicate (n : Int).toNat [V.str "+"]).flatten)
    refine ⟨l0, p1, _, _, rfl, rfl, s1 _ _ (s0' _ _ e0), upd_same, ?_, fun p2 n2 => ?_⟩
    · rw [Int.toNat_natCast, flat_len]
      show 6 + n * 1 ≤ _
      omega
    have s2 := Gm.same_new n2 (HO.lst ((["proc", "p", "1", "1", "g", "answer"] : List Str).map V.str ++ (List.replicate (n : Int).toNat [V.str "+"]).flatten))
    refine ⟨by show 1 ≤ _; omega, fun p3 n3 => ?_⟩
    have s3 := Gm.same_new n3 (HO.lst [V.str "g"])
    refine ⟨_, rfl, _, _, rfl, rfl, ?_⟩
    refine ⟨p3, (n : Int) + 1, _, rfl, rfl, upd_same, by omega, by omega, ?_, fun p4 n4 => ?_⟩
    · rw [en]
      show 1 * (n + 1) ≤ _
      omega
    have s4 := Gm.same_new n4 (HO.lst (List.replicate ((n : Int) + 1).toNat [V.str "g"]).flatten)
    refine ⟨p2, p4, _, _, rfl, rfl, s4 _ _ (s3 _ _ upd_same), upd_same, ?_, fun p5 n5 => ?_⟩
    · rw [Int.toNat_natCast, en, List.length_append, flat_len, flat_len]
      show 6 + n * 1 + (n + 1) * 1 ≤ _
      omega
    have s5 := Gm.same_new n5 (HO.lst (((["proc", "p", "1", "1", "g", "answer"] : List Str).map V.str ++ (List.replicate (n : Int).toNat [V.str "+"]).flatten) ++ (List.replicate ((n : Int) + 1).toNat [V.str "g"]).flatten))
    refine ⟨by show 1 ≤ _; omega, fun p6 n6 => ?_⟩
    have s6 := Gm.same_new n6 (HO.lst [V.str "end"])
    refine ⟨p5, p6, _, _, rfl, rfl, s6 _ _ upd_same, upd_same, ?_, fun p7 n7 => ?_⟩
    · rw [Int.toNat_natCast, en, List.length_append, List.length_append, flat_len, flat_len]
      show 6 + n * 1 + (n + 1) * 1 + 1 ≤ _
      omega
    have s7 := Gm.same_new n7 (HO.lst ((((["proc", "p", "1", "1", "g", "answer"] : List Str).map V.str ++ (List.replicate (n : Int).toNat [V.str "+"]).flatten) ++ (List.replicate ((n : Int) + 1).toNat [V.str "g"]).flatten) ++ [V.str "end"]))
    refine ⟨" ", p7, tallW n, rfl, rfl, .inl (SqL.of ?_), o1, ?_⟩
    · rw [upd_same]
      have z : ([V.str "end"] : List V) = (["end"] : List Str).map V.str := rfl
      have z1 : ([V.str "+"] : List V) = (["+"] : List Str).map V.str := rfl
      have z2 : ([V.str "g"] : List V) = (["g"] : List Str).map V.str := rfl
      rw [Int.toNat_natCast, en, z, z1, z2, rep_map, rep_map, ← List.map_append, ← List.map_append, ← List.map_append]
      rfl
    refine ⟨_, rfl, o2, fun H3 s8 => ⟨_, rfl, rfl, ?_⟩⟩
    have e : decide (V.int (lawAt (Txt.join " " (tallW n))) = V.int due) = true := decide_eq_true (congrArg V.int (o3.trans ed.symm))
    show Q (.bl (decide (V.int (lawAt (Txt.join " " (tallW n))) = V.int due))) _
    rw [e]
    exact q _ (s0.trans (s0'.trans (s1.trans (s2.trans (s3.trans (s4.trans (s5.trans (s6.trans (s7.trans s8)))))))))
  refine ⟨_, rfl, _, _, rfl, rfl, _, rfl, ?_⟩
  refine ite2 (fun c => ?_) (fun c => ?_)
  · have c' : 7 < n := by have := of_decide_eq_true c; omega
    refine ⟨_, rfl, l0, _, rfl, .inl (SqL.of e0), _, _, rfl, rfl, ?_⟩
    refine fin _ ?_
    unfold dueT
    rw [if_pos c']
    rfl
  · refine fin _ ?_
    unfold dueT
    rw [if_neg (fun z => c (decide_eq_true (by omega)))]
end
end Toy
set_option Elab.async false
set_option linter.all false
set_option maxRecDepth 100000
set_option maxHeartbeats 4000000
namespace Toy
open PySem L2 Mine NdefX Gm Pz
/-! ### the fixed rows, written -/
def spFixed : Sp := fun vs H Q _ => vs = [] ∧ ∀ H', Same H H' → Q (.bl true) H'
def RowsAt (H : Hp) : List Addr → List (Str × Int) → Prop
  | [], [] => True
  | p :: ps, r :: rs => H p = some (.tup [.str r.1, .int r.2]) ∧ RowsAt H ps rs
  | _, _ => False
theorem RowsAt.mono {H H' : Hp} (s : Same H H') : ∀ {ps : List Addr} {rs : List (Str × Int)}, RowsAt H ps rs → RowsAt H' ps rs
  | [], [], _ => trivial
  | _ :: _, _ :: _, h => ⟨s _ _ h.1, RowsAt.mono s h.2⟩
  | [], _ :: _, h => h.elim
  | _ :: _, [], h => h.elim
theorem RowsAt.len {H : Hp} : ∀ {ps : List Addr} {rs : List (Str × Int)}, RowsAt H ps rs → ps.length = rs.length
  | [], [], _ => rfl
  | _ :: _, _ :: _, h => congrArg (· + 1) h.2.len
  | [], _ :: _, h => h.elim
  | _ :: _, [], h => h.elim
theorem RowsAt.app {H : Hp} : ∀ {ps qs : List Addr} {rs ts : List (Str × Int)}, RowsAt H ps rs → RowsAt H qs ts → RowsAt H (ps ++ qs) (rs ++ ts)
  | [], _, [], _, _, h => h
  | _ :: _, _, _ :: _, _, h, k => ⟨h.1, h.2.app k⟩
  | [], _, _ :: _, _, h, _ => h.elim
  | _ :: _, _, [], _, h, _ => h.elim
theorem RowsAt.get {H : Hp} : ∀ {ps : List Addr} {rs : List (Str × Int)} {i : Nat} {r : Str × Int} {p : Addr}, RowsAt H ps rs → rs[i]? = some r → ps[i]? = some p → H p = some (.tup [.str r.1, .int r.2])
  | [], [], i, r, p, _, h, _ => by simp at h
  | _ :: _, _ :: _, 0, r, p, h, e1, e2 => by
    obtain rfl := Option.some.inj e1
    obtain rfl := Option.some.inj e2
    exact h.1
  | _ :: _, _ :: _, i + 1, r, p, h, e1, e2 => h.2.get (i := i) (by simpa using e1) (by simpa using e2)
  | [], _ :: _, _, _, _, h, _, _ => h.elim
  | _ :: _, [], _, _, _, h, _, _ => h.elim
def RowE (te : TE) (r : Str × Int) : Prop := ∀ (σ : L2.St) (H : Hp) (Q : VK), (∀ p H', Same H H' → H' p = some (.tup [.str r.1, .int r.2]) → Q (.ref p) H') → te σ H Q
def RowsA (ta : TA) (rs : List (Str × Int)) : Prop := ∀ (σ : L2.St) (H : Hp) (Q : List V → Hp → Prop), (∀ ps H', Same H H' → RowsAt H' ps rs → Q (ps.map V.ref) H') → ta σ H Q
theorem rowE_pos {x : Str} {n : Int} : RowE (tTup (tCons (tC (.str x)) (tCons (tC (.int n)) tNil))) (x, n) := by
  intro σ H Q q
  exact ⟨(by show 2 ≤ sizeLine; decide), fun p np => q p _ (Gm.same_new np _) upd_same⟩
theorem rowE_neg {x : Str} {n : Int} : RowE (tTup (tCons (tC (.str x)) (tCons (tUn (rU fun i => .int (-i)) (tC (.int n))) tNil))) (x, -n) := by
  intro σ H Q q
  exact ⟨_, rfl, (by show 2 ≤ sizeLine; decide), fun p np => q p _ (Gm.same_new np _) upd_same⟩
theorem rowE_txt {a b c : Str} {k n : Int} {r : Str × Int} (ok : MulOk b k) (h1 : a.length + (Txt.mul b k).length ≤ sizeLine) (h2 : (a ++ Txt.mul b k).length + c.length ≤ sizeLine) (er : ((a ++ Txt.mul b k) ++ c, n) = r) :
    RowE (tTup (tCons (tOp (fun x y H Q => ∃ i j, x = .str i ∧ y = .str j ∧ i.length + j.length ≤ sizeLine ∧ Q (.str (i ++ j)) H) (tOp (fun x y H Q => ∃ i j, x = .str i ∧ y = .str j ∧ i.length + j.length ≤ sizeLine ∧ Q (.str (i ++ j)) H) (tC (.str a))
      (tOp (fun x y H Q => ∃ i n, x = .str i ∧ y = .int n ∧ MulOk i n ∧ Q (.str (Txt.mul i n)) H) (tC (.str b)) (tC (.int k)))) (tC (.str c))) (tCons (tC (.int n)) tNil))) r := by
  subst er
  intro σ H Q q
  exact ⟨_, _, rfl, rfl, ok, _, _, rfl, rfl, h1, _, _, rfl, rfl, h2, (by show 2 ≤ sizeLine; decide), fun p np => q p _ (Gm.same_new np _) upd_same⟩
theorem rows_nil : RowsA tNil [] := fun σ H Q q => q [] H (Same.refl _) trivial
theorem rows_cons {te : TE} {ta : TA} {r : Str × Int} {rs : List (Str × Int)} (h1 : RowE te r) (h2 : RowsA ta rs) : RowsA (tCons te ta) (r :: rs) := by
  intro σ H Q q
  exact h1 σ H _ fun p H1 s1 e1 => h2 σ H1 _ fun ps H2 s2 e2 => q (p :: ps) H2 (s1.trans s2) ⟨s2 _ _ e1, e2⟩
theorem rows_first {ta : TA} {rs : List (Str × Int)} {D : Ends} {a b : Option V} {H : Hp} (h : RowsA ta rs) (hz : rs.length ≤ 100) (q : ∀ l ps H', Same H H' → H' l = some (.lst (ps.map V.ref)) → RowsAt H' ps rs → D.nx [some (.ref l), b] H') :
    tAsg (tLst ta) (gName 0) D [a, b] H := by
  refine h _ _ _ fun ps H1 s1 e1 => ⟨?_, fun l nl => ?_⟩
  · rw [List.length_map, e1.len]
    exact Nat.le_trans hz (by decide)
  · have s2 := Gm.same_new nl (HO.lst (ps.map V.ref))
    exact q l ps _ (s1.trans s2) upd_same (e1.mono s2)
theorem rows_more {ta : TA} {rs rs0 : List (Str × Int)} {D : Ends} {b : Option V} {H : Hp} {l0 : Addr} {ps0 : List Addr} (e0 : H l0 = some (.lst (ps0.map V.ref))) (r0 : RowsAt H ps0 rs0) (h : RowsA ta rs) (hz : rs.length ≤ 100) (hz0 : rs0.length ≤ 100)
    (q : ∀ l ps H', Same H H' → H' l = some (.lst (ps.map V.ref)) → RowsAt H' ps (rs0 ++ rs) → D.nx [some (.ref l), b] H') :
    tAsg (tOp rCat (tVar 0) (tLst ta)) (gName 0) D [some (.ref l0), b] H := by
  have big : 1000 ≤ sizeLine := by decide
  refine ⟨_, rfl, h _ _ _ fun ps H1 s1 e1 => ⟨?_, fun l nl => ?_⟩⟩
  · rw [List.length_map, e1.len]
    omega
  have s2 := Gm.same_new nl (HO.lst (ps.map V.ref))
  refine ⟨l0, l, _, _, rfl, rfl, s2 _ _ (s1 _ _ e0), upd_same, ?_, fun l2 nl2 => ?_⟩
  · rw [List.length_map, List.length_map, e1.len, r0.len]
    omega
  have s3 := Gm.same_new nl2 (HO.lst (ps0.map V.ref ++ ps.map V.ref))
  refine q l2 (ps0 ++ ps) _ (s1.trans (s2.trans s3)) (by rw [List.map_append]; exact upd_same) ?_
  exact (r0.mono (s1.trans (s2.trans s3))).app (e1.mono (s2.trans s3))
/-- a written text six or eight times -/
theorem mulok1 : MulOk "if 1 bad else " 6 := by unfold MulOk; decide +kernel
theorem mulok2 : MulOk "+ 1 " 8 := by unfold MulOk; decide +kernel
section
variable {P : Program} {w : World} {K : PySem.W.Frag} {mg : Str → Option Value} {base : Heap} {file : Str}
theorem ok_fixed (hP : PrF P file) (T : Txt K mg file) (hF : FormsAt K w T.a_FORMS) : FnOk P w K mg base CX0 42 T.a_law_fixed T.fd_law_fixed [] spFixed := by
  have G_law_at : FnOk P w K mg base CX0 40 T.a_law_at T.fd_law_at ["text"] spAt := ok_at hP T hF
  refine T.F_law_fixed.ok sc_law_fixed (fun vs H Q E h => ?_) (fun cdv A outer s H vs Q E hr h => ?_)
  · obtain ⟨rfl, _⟩ := h
    rfl
  obtain ⟨rfl, q⟩ := h
  refine ⟨_, (pss_cons (ps_set (i := 0) sc_law_fixed.nd rfl (Or.inl rfl) (pe_lst (pa_cons (pe_tup (pa_cons pe_str (pa_cons pe_int pa_nil))) (pa_cons (pe_tup (pa_cons pe_str (pa_cons pe_int pa_nil))) (pa_cons (pe_tup (pa_cons pe_str (pa_cons (pe_un un_neg pe_int) pa_nil))) (pa_cons (pe_tup (pa_cons pe_str (pa_cons (pe_un un_neg pe_int) pa_nil))) (pa_cons (pe_tup (pa_cons pe_str (pa_cons pe_int pa_nil))) pa_nil)))))))
    (pss_cons (ps_set (i := 0) sc_law_fixed.nd rfl (Or.inl rfl) (pe_op op_cat (pv 0) (pe_lst (pa_cons (pe_tup (pa_cons pe_str (pa_cons pe_int pa_nil))) (pa_cons (pe_tup (pa_cons pe_str (pa_cons pe_int pa_nil))) (pa_cons (pe_tup (pa_cons pe_str (pa_cons (pe_un un_neg pe_int) pa_nil))) (pa_cons (pe_tup (pa_cons pe_str (pa_cons pe_int pa_nil))) (pa_cons (pe_tup (pa_cons pe_str (pa_cons pe_int pa_nil))) pa_nil))))))))
    (pss_cons (ps_set (i := 0) sc_law_fixed.nd rfl (Or.inl rfl) (pe_op op_cat (pv 0) (pe_lst (pa_cons (pe_tup (pa_cons pe_str (pa_cons pe_int pa_nil))) (pa_cons (pe_tup (pa_cons pe_str (pa_cons (pe_un un_neg pe_int) pa_nil))) (pa_cons (pe_tup (pa_cons pe_str (pa_cons pe_int pa_nil))) pa_nil))))))
    (pss_cons (ps_set (i := 0) sc_law_fixed.nd rfl (Or.inl rfl) (pe_op op_cat (pv 0) (pe_lst (pa_cons (pe_tup (pa_cons pe_str (pa_cons pe_int pa_nil))) (pa_cons (pe_tup (pa_cons pe_str (pa_cons pe_int pa_nil))) (pa_cons (pe_tup (pa_cons pe_str (pa_cons pe_int pa_nil))) (pa_cons (pe_tup (pa_cons pe_str (pa_cons pe_int pa_nil))) pa_nil)))))))
    (pss_cons (ps_set (i := 0) sc_law_fixed.nd rfl (Or.inl rfl) (pe_op op_cat (pv 0) (pe_lst (pa_cons (pe_tup (pa_cons pe_str (pa_cons pe_int pa_nil))) (pa_cons (pe_tup (pa_cons pe_str (pa_cons pe_int pa_nil))) (pa_cons (pe_tup (pa_cons pe_str (pa_cons pe_int pa_nil))) pa_nil))))))
    (pss_cons (ps_set (i := 0) sc_law_fixed.nd rfl (Or.inl rfl) (pe_op op_cat (pv 0) (pe_lst (pa_cons (pe_tup (pa_cons pe_str (pa_cons pe_int pa_nil))) (pa_cons (pe_tup (pa_cons pe_str (pa_cons pe_int pa_nil))) (pa_cons (pe_tup (pa_cons pe_str (pa_cons pe_int pa_nil))) pa_nil))))))
    (pss_cons (ps_set (i := 0) sc_law_fixed.nd rfl (Or.inl rfl) (pe_op op_cat (pv 0) (pe_lst (pa_cons (pe_tup (pa_cons pe_str (pa_cons pe_int pa_nil))) (pa_cons (pe_tup (pa_cons pe_str (pa_cons pe_int pa_nil))) (pa_cons (pe_tup (pa_cons pe_str (pa_cons pe_int pa_nil))) pa_nil))))))
    (pss_cons (ps_set (i := 0) sc_law_fixed.nd rfl (Or.inl rfl) (pe_op op_cat (pv 0) (pe_lst (pa_cons (pe_tup (pa_cons pe_str (pa_cons pe_int pa_nil))) (pa_cons (pe_tup (pa_cons pe_str (pa_cons pe_int pa_nil))) (pa_cons (pe_tup (pa_cons pe_str (pa_cons pe_int pa_nil))) pa_nil))))))
    (pss_cons (ps_set (i := 0) sc_law_fixed.nd rfl (Or.inl rfl) (pe_op op_cat (pv 0) (pe_lst (pa_cons (pe_tup (pa_cons pe_str (pa_cons (pe_un un_neg pe_int) pa_nil))) (pa_cons (pe_tup (pa_cons pe_str (pa_cons pe_int pa_nil))) (pa_cons (pe_tup (pa_cons pe_str (pa_cons (pe_un un_neg pe_int) pa_nil))) pa_nil))))))
    (pss_cons (ps_set (i := 0) sc_law_fixed.nd rfl (Or.inl rfl) (pe_op op_cat (pv 0) (pe_lst (pa_cons (pe_tup (pa_cons pe_str (pa_cons pe_int pa_nil))) (pa_cons (pe_tup (pa_cons pe_str (pa_cons pe_int pa_nil))) (pa_cons (pe_tup (pa_cons pe_str (pa_cons pe_int pa_nil))) (pa_cons (pe_tup (pa_cons pe_str (pa_cons pe_int pa_nil))) pa_nil)))))))
    (pss_cons (ps_set (i := 0) sc_law_fixed.nd rfl (Or.inl rfl) (pe_op op_cat (pv 0) (pe_lst (pa_cons (pe_tup (pa_cons pe_str (pa_cons pe_int pa_nil))) (pa_cons (pe_tup (pa_cons pe_str (pa_cons pe_int pa_nil))) (pa_cons (pe_tup (pa_cons pe_str (pa_cons pe_int pa_nil))) (pa_cons (pe_tup (pa_cons pe_str (pa_cons pe_int pa_nil))) pa_nil)))))))
    (pss_cons (ps_set (i := 0) sc_law_fixed.nd rfl (Or.inl rfl) (pe_op op_cat (pv 0) (pe_lst (pa_cons (pe_tup (pa_cons (pe_op op_add_str (pe_op op_add_str pe_str (pe_op op_mul_str pe_str pe_int)) pe_str) (pa_cons pe_int pa_nil))) (pa_cons (pe_tup (pa_cons (pe_op op_add_str (pe_op op_add_str pe_str (pe_op op_mul_str pe_str pe_int)) pe_str) (pa_cons pe_int pa_nil))) pa_nil)))))
    (pss_cons (ps_for PassesOwn.never rfl (pi_list (pv 0)) (pg_name (i := 1) sc_law_fixed.nd rfl (Or.inl rfl))
      (pss_one (ps_if (pt_cmpR op_ne (pe_call G_law_at (hr.mono (by decide)) rfl T.g_law_at T.k_law_at T.b_law_at .nil pass0 (pa_cons (pe_ix ix_tup (pv 1) pe_int (fun _ _ => rfl)) pa_nil)) (pe_ix ix_tup (pv 1) pe_int (fun _ _ => rfl)) (nomark _))
      (pss_one (ps_ret pe_bl))
      pss_nil)))
    (pss_one (ps_ret pe_bl))))))))))))))), ?_⟩
  refine rows_first (a := none) (b := none) (rs := fx0) (by unfold fx0; repeat (first | exact rows_nil | refine rows_cons rowE_pos ?_ | refine rows_cons rowE_neg ?_)) (by decide) fun l0 ps0 H0 s0 e0 r0 => ?_
  refine rows_more e0 r0 (rs := fx1) (by unfold fx1; repeat (first | exact rows_nil | refine rows_cons rowE_pos ?_ | refine rows_cons rowE_neg ?_)) (by decide) (by decide) fun l1 ps1 H1 t1 e1 r1 => ?_
  have s1 := s0.trans t1
  refine rows_more e1 r1 (rs := fx2) (by unfold fx2; repeat (first | exact rows_nil | refine rows_cons rowE_pos ?_ | refine rows_cons rowE_neg ?_)) (by decide) (by decide) fun l2 ps2 H2 t2 e2 r2 => ?_
  have s2 := s1.trans t2
  refine rows_more e2 r2 (rs := fx3) (by unfold fx3; repeat (first | exact rows_nil | refine rows_cons rowE_pos ?_ | refine rows_cons rowE_neg ?_)) (by decide) (by decide) fun l3 ps3 H3 t3 e3 r3 => ?_
  have s3 := s2.trans t3
  refine rows_more e3 r3 (rs := fx4) (by unfold fx4; repeat (first | exact rows_nil | refine rows_cons rowE_pos ?_ | refine rows_cons rowE_neg ?_)) (by decide) (by decide) fun l4 ps4 H4 t4 e4 r4 => ?_
  have s4 := s3.trans t4
  refine rows_more e4 r4 (rs := fx5) (by unfold fx5; repeat (first | exact rows_nil | refine rows_cons rowE_pos ?_ | refine rows_cons rowE_neg ?_)) (by decide) (by decide) fun l5 ps5 H5 t5 e5 r5 => ?_
  have s5 := s4.trans t5
  refine rows_more e5 r5 (rs := fx6) (by unfold fx6; repeat (first | exact rows_nil | refine rows_cons rowE_pos ?_ | refine rows_cons rowE_neg ?_)) (by decide) (by decide) fun l6 ps6 H6 t6 e6 r6 => ?_
  have s6 := s5.trans t6
  refine rows_more e6 r6 (rs := fx7) (by unfold fx7; repeat (first | exact rows_nil | refine rows_cons rowE_pos ?_ | refine rows_cons rowE_neg ?_)) (by decide) (by decide) fun l7 ps7 H7 t7 e7 r7 => ?_
  have s7 := s6.trans t7
  refine rows_more e7 r7 (rs := fx8) (by unfold fx8; repeat (first | exact rows_nil | refine rows_cons rowE_pos ?_ | refine rows_cons rowE_neg ?_)) (by decide) (by decide) fun l8 ps8 H8 t8 e8 r8 => ?_
  have s8 := s7.trans t8
  refine rows_more e8 r8 (rs := fx9) (by unfold fx9; repeat (first | exact rows_nil | refine rows_cons rowE_pos ?_ | refine rows_cons rowE_neg ?_)) (by decide) (by decide) fun l9 ps9 H9 t9 e9 r9 => ?_
  have s9 := s8.trans t9
  refine rows_more e9 r9 (rs := fx10) (by unfold fx10; repeat (first | exact rows_nil | refine rows_cons rowE_pos ?_ | refine rows_cons rowE_neg ?_)) (by decide) (by decide) fun l10 ps10 H10 t10 e10 r10 => ?_
  have s10 := s9.trans t10
  refine rows_more e10 r10 (rs := fx11) (by unfold fx11; exact rows_cons (rowE_txt mulok1 (by decide +kernel) (by decide +kernel) (by decide +kernel)) (rows_cons (rowE_txt mulok2 (by decide +kernel) (by decide +kernel) (by decide +kernel)) rows_nil)) (by decide) (by decide) fun l ps H1 t e1 r1 => ?_
  have s1 := s10.trans t
  have r1 : RowsAt H1 ps fxAll := r1
  refine ⟨_, rfl, l, rfl, ⟨_, SqL.of e1⟩, ?_⟩
  refine for_it walk_list (fun t σ H' => (∃ y, σ = [some (.ref l), y]) ∧ Same H1 H') ⟨⟨none, rfl⟩, Same.refl _⟩ (fun t σ H' _ h => h.2.seq (SqL.of e1)) ?_ ?_
  · rintro t x σ H2 H3 ht ⟨⟨y, rfl⟩, m⟩ ⟨rfl, ex⟩
    rw [List.getElem?_map] at ex
    obtain ⟨p, ep, rfl⟩ := Option.map_eq_some_iff.mp ex
    have lt : t < fxAll.length := by
      rw [← r1.len]
      rw [List.length_map] at ht
      exact ht
    have er : fxAll[t]? = some fxAll[t] := List.getElem?_eq_getElem lt
    have ha := r1.get er ep
    have ok := List.all_eq_true.mp fx_ok _ (List.mem_of_getElem? er)
    generalize fxAll[t] = r at *
    unfold okRow at ok
    simp only [Bool.and_eq_true, decide_eq_true_eq] at ok
    obtain ⟨o1, o2⟩ := ok
    refine ⟨_, rfl, p, _, _, _, rfl, rfl, SqT.of (m _ _ ha), rfl, r.1, rfl, o1, fun H4 m4 => ?_⟩
    refine ⟨_, rfl, p, _, _, _, rfl, rfl, SqT.of (m4 _ _ (m _ _ ha)), rfl, rfl, _, rfl, ?_⟩
    refine ite_no (by rw [o2]; simp) ?_
    exact ⟨⟨_, rfl⟩, m.trans m4⟩
  · rintro σ H2 ⟨⟨y, rfl⟩, m⟩
    exact q _ (s1.trans m)
end
end Toy
set_option Elab.async false
set_option linter.all false
set_option maxRecDepth 100000
set_option maxHeartbeats 4000000
namespace Toy
open PySem L2 Mine NdefX Gm Pz
def spLaw (K : PySem.W.Frag) : Sp := fun vs H Q _ => ∃ (a : Addr) (ns : List Int), vs = [.ref a] ∧ SqL K H a (ns.map V.int) ∧ ns.length ≤ 63 ∧ ∀ H', Q (.bl true) H'
theorem mod3 (x : Int) : ∃ k : Nat, x % 3 = (k : Int) ∧ k ∈ ([0, 1, 2] : List Nat) := by
  have h0 := Int.emod_nonneg x (by decide : (3 : Int) ≠ 0)
  have h1 := Int.emod_lt_of_pos x (by decide : (0 : Int) < 3)
  refine ⟨(x % 3).toNat, by omega, ?_⟩
  have : (x % 3).toNat = 0 ∨ (x % 3).toNat = 1 ∨ (x % 3).toNat = 2 := by omega
  simpa using this
section
variable {P : Program} {w : World} {K : PySem.W.Frag} {mg : Str → Option Value} {base : Heap} {file : Str}
theorem ok_law (hP : PrF P file) (T : Txt K mg file) (hF : FormsAt K w T.a_FORMS) : FnOk P w K mg base CX0 60 T.a_law T.fd_law ["script"] (spLaw K) := by
  have G_law_cell : FnOk P w K mg base CX0 1 T.a_law_cell T.fd_law_cell ["script", "k"] (spCell K) := ok_cell T
  have G_law_many : FnOk P w K mg base CX0 42 T.a_law_many T.fd_law_many ["head", "parts", "count", "most", "rest"] spMany := ok_many hP T hF
  have G_law_deep : FnOk P w K mg base CX0 42 T.a_law_deep T.fd_law_deep ["parts", "count", "most", "rest", "steps"] spDeep := ok_deep hP T hF
  have G_law_tall : FnOk P w K mg base CX0 42 T.a_law_tall T.fd_law_tall ["count"] spTall := ok_tall hP T hF
  have G_law_fixed : FnOk P w K mg base CX0 42 T.a_law_fixed T.fd_law_fixed [] spFixed := ok_fixed hP T hF
  refine T.F_law.ok sc_law (fun vs H Q E h => ?_) (fun cdv A outer s H vs Q E hr h => ?_)
  · obtain ⟨a, ns, rfl, _⟩ := h
    rfl
  obtain ⟨sa, ns, rfl, hS, hlen, q⟩ := h
  refine ⟨_, (pss_cons (ps_set (i := 1) sc_law.nd rfl (Or.inl rfl) (pe_op op_mod (pe_callTy call_int1 (by rfl) T.z_int (by decide +kernel) (pa_cons (pe_call G_law_cell (hr.mono (by decide)) rfl T.g_law_cell T.k_law_cell T.b_law_cell .nil pass0 (pa_cons (pv 0) (pa_cons pe_int pa_nil))) pa_nil)) pe_int))
    (pss_cons (ps_set (i := 2) sc_law.nd rfl (Or.inl rfl) (pe_op op_mod (pe_op op_fdivW (pe_callTy call_int1 (by rfl) T.z_int (by decide +kernel) (pa_cons (pe_call G_law_cell (hr.mono (by decide)) rfl T.g_law_cell T.k_law_cell T.b_law_cell .nil pass0 (pa_cons (pv 0) (pa_cons pe_int pa_nil))) pa_nil)) pe_int) pe_int))
    (pss_cons (ps_if (pt_cmpR op_eq (pv 1) pe_int (nomark _))
      (pss_one (ps_ret (pe_call G_law_many (hr.mono (by decide)) rfl T.g_law_many T.k_law_many T.b_law_many .nil pass0 (pa_cons (pe_lst pa_nil) (pa_cons (pe_lst (pa_cons pe_str (pa_cons pe_str (pa_cons pe_str (pa_cons pe_str pa_nil))))) (pa_cons (pe_op op_add pe_int (pv 2)) (pa_cons pe_int (pa_cons (pe_lst pa_nil) pa_nil))))))))
      pss_nil)
    (pss_cons (ps_if (pt_cmpR op_eq (pv 1) pe_int (nomark _))
      (pss_one (ps_ret (pe_call G_law_many (hr.mono (by decide)) rfl T.g_law_many T.k_law_many T.b_law_many .nil pass0 (pa_cons (pe_lst pa_nil) (pa_cons (pe_lst (pa_cons pe_str (pa_cons pe_str (pa_cons pe_str (pa_cons pe_str pa_nil))))) (pa_cons (pe_op op_add pe_int (pv 2)) (pa_cons pe_int (pa_cons (pe_lst pa_nil) pa_nil))))))))
      pss_nil)
    (pss_cons (ps_if (pt_cmpR op_eq (pv 1) pe_int (nomark _))
      (pss_one (ps_ret (pe_call G_law_many (hr.mono (by decide)) rfl T.g_law_many T.k_law_many T.b_law_many .nil pass0 (pa_cons (pe_lst pa_nil) (pa_cons (pe_lst (pa_cons pe_str (pa_cons pe_str (pa_cons pe_str (pa_cons pe_str pa_nil))))) (pa_cons (pe_op op_add pe_int (pv 2)) (pa_cons pe_int (pa_cons (pe_lst pa_nil) pa_nil))))))))
      pss_nil)
    (pss_cons (ps_if (pt_cmpR op_eq (pv 1) pe_int (nomark _))
      (pss_one (ps_ret (pe_call G_law_many (hr.mono (by decide)) rfl T.g_law_many T.k_law_many T.b_law_many .nil pass0 (pa_cons (pe_lst pa_nil) (pa_cons (pe_lst (pa_cons pe_str (pa_cons pe_str (pa_cons pe_str (pa_cons pe_str (pa_cons pe_str (pa_cons pe_str (pa_cons pe_str (pa_cons pe_str pa_nil))))))))) (pa_cons (pe_op op_add pe_int (pv 2)) (pa_cons pe_int (pa_cons (pe_lst pa_nil) pa_nil))))))))
      pss_nil)
    (pss_cons (ps_if (pt_cmpR op_eq (pv 1) pe_int (nomark _))
      (pss_one (ps_ret (pe_call G_law_many (hr.mono (by decide)) rfl T.g_law_many T.k_law_many T.b_law_many .nil pass0 (pa_cons (pe_lst (pa_cons pe_str (pa_cons pe_str (pa_cons pe_str (pa_cons pe_str (pa_cons pe_str pa_nil)))))) (pa_cons (pe_lst (pa_cons pe_str (pa_cons pe_str pa_nil))) (pa_cons (pe_op op_add pe_int (pv 2)) (pa_cons pe_int (pa_cons (pe_lst (pa_cons pe_str (pa_cons pe_str (pa_cons pe_str pa_nil)))) pa_nil))))))))
      pss_nil)
    (pss_cons (ps_if (pt_cmpR op_eq (pv 1) pe_int (nomark _))
      (pss_one (ps_ret (pe_call G_law_deep (hr.mono (by decide)) rfl T.g_law_deep T.k_law_deep T.b_law_deep .nil pass0 (pa_cons (pe_lst (pa_cons pe_str (pa_cons pe_str pa_nil))) (pa_cons (pe_op op_add pe_int (pv 2)) (pa_cons pe_int (pa_cons (pe_lst (pa_cons pe_str (pa_cons pe_str (pa_cons pe_str pa_nil)))) (pa_cons pe_int pa_nil))))))))
      pss_nil)
    (pss_cons (ps_if (pt_cmpR op_eq (pv 1) pe_int (nomark _))
      (pss_one (ps_ret (pe_call G_law_deep (hr.mono (by decide)) rfl T.g_law_deep T.k_law_deep T.b_law_deep .nil pass0 (pa_cons (pe_lst (pa_cons pe_str pa_nil)) (pa_cons (pe_op op_add pe_int (pv 2)) (pa_cons pe_int (pa_cons (pe_lst (pa_cons pe_str (pa_cons pe_str (pa_cons pe_str pa_nil)))) (pa_cons pe_int pa_nil))))))))
      pss_nil)
    (pss_cons (ps_if (pt_cmpR op_eq (pv 1) pe_int (nomark _))
      (pss_one (ps_ret (pe_call G_law_tall (hr.mono (by decide)) rfl T.g_law_tall T.k_law_tall T.b_law_tall .nil pass0 (pa_cons (pe_op op_add pe_int (pv 2)) pa_nil))))
      pss_nil)
    (pss_one (ps_ret (pe_call0 G_law_fixed (hr.mono (by decide)) rfl T.g_law_fixed T.k_law_fixed T.b_law_fixed .nil pass0))))))))))))), ?_⟩
  refine ⟨_, rfl, sa, ns, 0, rfl, hS, by decide, fun x1 => .inl ⟨_, rfl, _, _, rfl, rfl, by show (0 : Int) < 9; decide, ?_⟩⟩
  refine ⟨_, rfl, sa, ns, 0, rfl, hS, by decide, fun x2 => .inl ⟨_, rfl, _, _, rfl, rfl, ⟨by decide, by decide⟩, _, _, rfl, rfl, by show (0 : Int) < 3; decide, ?_⟩⟩
  obtain ⟨k, ek, hk⟩ := mod3 (x2 / 9)
  have k2 : k ≤ 2 := by
    simp at hk
    omega
  dsimp only
  rw [ek]
  generalize x1 % 9 = way
  have e1 : (5 : Int) + (k : Int) = ((5 + k : Nat) : Int) := by omega
  have e2 : (4 : Int) + (k : Int) = ((4 + k : Nat) : Int) := by omega
  have e3 : (6 : Int) + (k : Int) = ((6 + k : Nat) : Int) := by omega
  have z : ∀ {n : Nat}, n ≤ 20 → n ≤ sizeLine := fun h => Nat.le_trans h (by decide)
  have sn : ∀ {H : Hp} {p : Addr} {o : HO}, H p = none → Same H (upd H p o) := fun h => Gm.same_new h _
  -- way 0
  refine ⟨_, rfl, rfl, _, rfl, ?_⟩
  refine ite2 (fun c => ?_) (fun c => ?_)
  · refine ⟨z (by decide), fun h nh => ⟨z (by decide), fun p np => ⟨_, rfl, _, _, rfl, rfl, z (by decide), fun r nr => ?_⟩⟩⟩
    exact ⟨h, p, r, [], ["var", "#", "9", "8"], [], 5 + k, 6, by rw [← e1]; rfl, sn nr _ _ (sn np _ _ upd_same), sn nr _ _ upd_same, upd_same, by omega, by decide, by decide, by decide, by decide +kernel, way0 k hk, fun H' _ => q H'⟩
  -- way 1
  refine ⟨_, rfl, rfl, _, rfl, ?_⟩
  refine ite2 (fun c => ?_) (fun c => ?_)
  · refine ⟨z (by decide), fun h nh => ⟨z (by decide), fun p np => ⟨_, rfl, _, _, rfl, rfl, z (by decide), fun r nr => ?_⟩⟩⟩
    exact ⟨h, p, r, [], ["table", "#", "1", "2"], [], 5 + k, 6, by rw [← e1]; rfl, sn nr _ _ (sn np _ _ upd_same), sn nr _ _ upd_same, upd_same, by omega, by decide, by decide, by decide, by decide +kernel, way1 k hk, fun H' _ => q H'⟩
  -- way 2
  refine ⟨_, rfl, rfl, _, rfl, ?_⟩
  refine ite2 (fun c => ?_) (fun c => ?_)
  · refine ⟨z (by decide), fun h nh => ⟨z (by decide), fun p np => ⟨_, rfl, _, _, rfl, rfl, z (by decide), fun r nr => ?_⟩⟩⟩
    exact ⟨h, p, r, [], ["lots", "#", "1", "2"], [], 5 + k, 6, by rw [← e1]; rfl, sn nr _ _ (sn np _ _ upd_same), sn nr _ _ upd_same, upd_same, by omega, by decide, by decide, by decide, by decide +kernel, way2 k hk, fun H' _ => q H'⟩
  -- way 3
  refine ⟨_, rfl, rfl, _, rfl, ?_⟩
  refine ite2 (fun c => ?_) (fun c => ?_)
  · refine ⟨z (by decide), fun h nh => ⟨z (by decide), fun p np => ⟨_, rfl, _, _, rfl, rfl, z (by decide), fun r nr => ?_⟩⟩⟩
    exact ⟨h, p, r, [], ["proc", "#", "1", "1", "g", "answer", "g", "end"], [], 5 + k, 6, by rw [← e1]; rfl, sn nr _ _ (sn np _ _ upd_same), sn nr _ _ upd_same, upd_same, by omega, by decide, by decide, by decide, by decide +kernel, way3 k hk, fun H' _ => q H'⟩
  -- way 4
  refine ⟨_, rfl, rfl, _, rfl, ?_⟩
  refine ite2 (fun c => ?_) (fun c => ?_)
  · refine ⟨z (by decide), fun h nh => ⟨z (by decide), fun p np => ⟨_, rfl, _, _, rfl, rfl, z (by decide), fun r nr => ?_⟩⟩⟩
    exact ⟨h, p, r, ["proc", "p", "1", "1", "g"], ["local", "#"], ["answer", "0", "end"], 4 + k, 5, by rw [← e2]; rfl, sn nr _ _ (sn np _ _ upd_same), sn nr _ _ upd_same, upd_same, by omega, by decide, by decide, by decide, by decide +kernel, way4 k hk, fun H' _ => q H'⟩
  -- way 5
  refine ⟨_, rfl, rfl, _, rfl, ?_⟩
  refine ite2 (fun c => ?_) (fun c => ?_)
  · refine ⟨z (by decide), fun p np => ⟨_, rfl, _, _, rfl, rfl, z (by decide), fun r nr => ?_⟩⟩
    exact ⟨p, r, ["if", "1"], ["answer", "0", "end"], 5 + k, 6, 2, by rw [← e1]; rfl, sn nr _ _ upd_same, upd_same, by omega, by decide, by decide, by decide, by decide, way5 k hk, fun H' _ => q H'⟩
  -- way 6
  refine ⟨_, rfl, rfl, _, rfl, ?_⟩
  refine ite2 (fun c => ?_) (fun c => ?_)
  · refine ⟨z (by decide), fun p np => ⟨_, rfl, _, _, rfl, rfl, z (by decide), fun r nr => ?_⟩⟩
    exact ⟨p, r, ["after"], ["answer", "0", "end"], 5 + k, 6, 1, by rw [← e1]; rfl, sn nr _ _ upd_same, upd_same, by omega, by decide, by decide, by decide, by decide, way6 k hk, fun H' _ => q H'⟩
  -- way 7
  refine ⟨_, rfl, rfl, _, rfl, ?_⟩
  refine ite2 (fun c => ?_) (fun c => ?_)
  · exact ⟨_, rfl, _, _, rfl, rfl, 6 + k, by rw [← e3]; rfl, by omega, way7 k hk, fun H' _ => q H'⟩
  -- way 8
  exact ⟨rfl, fun H' _ => q H'⟩
end
end Toy
set_option Elab.async false
set_option linter.all false
set_option maxRecDepth 100000
set_option maxHeartbeats 4000000
namespace Toy
open PySem L2 Mine NdefX Gm Pz
/-- the written dict of forms -/
theorem mk_forms {K : PySem.W.Frag} {w : World} {a : Addr} {n : Nat} {h0 h1 h2 h3 h4 h5 h6 : Int} {t0 t1 t2 t3 t4 t5 t6 : Tok} {v0 v1 v2 v3 v4 v5 v6 : Addr} (low : (a == sysModules) = false)
    (l : K.lookup a = some ⟨.type "dict", none, .dict #[⟨h0, .str "set" t0, .ref v0⟩, ⟨h1, .str "let" t1, .ref v1⟩, ⟨h2, .str "draw" t2, .ref v2⟩, ⟨h3, .str "put" t3, .ref v3⟩, ⟨h4, .str "lot" t4, .ref v4⟩, ⟨h5, .str "ask" t5, .ref v5⟩, ⟨h6, .str "bad" t6, .ref v6⟩] n, #[]⟩)
    (k0 : h0 = PyData.keyHash w.params "set") (s0 : PySem.W.nsIn K a "set" = some (some (.ref v0))) (q0 : ∀ H, SqT K H v0 ((["variable", "expression"] : List Str).map V.str))
    (k1 : h1 = PyData.keyHash w.params "let") (s1 : PySem.W.nsIn K a "let" = some (some (.ref v1))) (q1 : ∀ H, SqT K H v1 ((["local", "expression"] : List Str).map V.str))
    (k2 : h2 = PyData.keyHash w.params "draw") (s2 : PySem.W.nsIn K a "draw" = some (some (.ref v2))) (q2 : ∀ H, SqT K H v2 ((["local", "number"] : List Str).map V.str))
    (k3 : h3 = PyData.keyHash w.params "put") (s3 : PySem.W.nsIn K a "put" = some (some (.ref v3))) (q3 : ∀ H, SqT K H v3 ((["table", "expression", "expression"] : List Str).map V.str))
    (k4 : h4 = PyData.keyHash w.params "lot") (s4 : PySem.W.nsIn K a "lot" = some (some (.ref v4))) (q4 : ∀ H, SqT K H v4 ((["local", "lots", "expression"] : List Str).map V.str))
    (k5 : h5 = PyData.keyHash w.params "ask") (s5 : PySem.W.nsIn K a "ask" = some (some (.ref v5))) (q5 : ∀ H, SqT K H v5 ((["local", "asked", "expression"] : List Str).map V.str))
    (k6 : h6 = PyData.keyHash w.params "bad") (s6 : PySem.W.nsIn K a "bad" = some (some (.ref v6))) (q6 : ∀ H, SqT K H v6 (([] : List Str).map V.str)) :
    FormsAt K w a := by
  have lit : PySem.W.KeysLit w.params (#[⟨h0, .str "set" t0, .ref v0⟩, ⟨h1, .str "let" t1, .ref v1⟩, ⟨h2, .str "draw" t2, .ref v2⟩, ⟨h3, .str "put" t3, .ref v3⟩, ⟨h4, .str "lot" t4, .ref v4⟩, ⟨h5, .str "ask" t5, .ref v5⟩, ⟨h6, .str "bad" t6, .ref v6⟩] : Array DictEntry).toList := ⟨⟨_, _, rfl, k0⟩, ⟨_, _, rfl, k1⟩, ⟨_, _, rfl, k2⟩, ⟨_, _, rfl, k3⟩, ⟨_, _, rfl, k4⟩, ⟨_, _, rfl, k5⟩, ⟨_, _, rfl, k6⟩, trivial⟩
  refine ⟨⟨low, _, _, l, rfl, ?_⟩, ?_⟩
  · intro i k h
    unfold words at h
    match i, h with
    | 0, h => obtain rfl := Option.some.inj h; exact ⟨_, _, rfl, rfl⟩
    | 1, h => obtain rfl := Option.some.inj h; exact ⟨_, _, rfl, rfl⟩
    | 2, h => obtain rfl := Option.some.inj h; exact ⟨_, _, rfl, rfl⟩
    | 3, h => obtain rfl := Option.some.inj h; exact ⟨_, _, rfl, rfl⟩
    | 4, h => obtain rfl := Option.some.inj h; exact ⟨_, _, rfl, rfl⟩
    | 5, h => obtain rfl := Option.some.inj h; exact ⟨_, _, rfl, rfl⟩
    | 6, h => obtain rfl := Option.some.inj h; exact ⟨_, _, rfl, rfl⟩
    | i + 7, h => simp at h
  · intro x hx
    unfold words at hx
    rcases List.mem_cons.mp hx with rfl | hx
    · have e : formOf "set" = (["variable", "expression"] : List Str) := by decide +kernel
      rw [e]
      exact ⟨v0, ⟨_, _, _, l, lit, s0, rfl⟩, q0⟩
    rcases List.mem_cons.mp hx with rfl | hx
    · have e : formOf "let" = (["local", "expression"] : List Str) := by decide +kernel
      rw [e]
      exact ⟨v1, ⟨_, _, _, l, lit, s1, rfl⟩, q1⟩
    rcases List.mem_cons.mp hx with rfl | hx
    · have e : formOf "draw" = (["local", "number"] : List Str) := by decide +kernel
      rw [e]
      exact ⟨v2, ⟨_, _, _, l, lit, s2, rfl⟩, q2⟩
    rcases List.mem_cons.mp hx with rfl | hx
    · have e : formOf "put" = (["table", "expression", "expression"] : List Str) := by decide +kernel
      rw [e]
      exact ⟨v3, ⟨_, _, _, l, lit, s3, rfl⟩, q3⟩
    rcases List.mem_cons.mp hx with rfl | hx
    · have e : formOf "lot" = (["local", "lots", "expression"] : List Str) := by decide +kernel
      rw [e]
      exact ⟨v4, ⟨_, _, _, l, lit, s4, rfl⟩, q4⟩
    rcases List.mem_cons.mp hx with rfl | hx
    · have e : formOf "ask" = (["local", "asked", "expression"] : List Str) := by decide +kernel
      rw [e]
      exact ⟨v5, ⟨_, _, _, l, lit, s5, rfl⟩, q5⟩
    rcases List.mem_cons.mp hx with rfl | hx
    · have e : formOf "bad" = ([] : List Str) := by decide +kernel
      rw [e]
      exact ⟨v6, ⟨_, _, _, l, lit, s6, rfl⟩, q6⟩
    cases hx
/-! ### the program's top -/
theorem all_mk {l : PySem.W.OpenLaw} {w : World} {K : PySem.W.Frag} {h : Heap} {mg : Str → Option Value} {fa : Addr} (X : K.In h) (G : h.Ns mainGlobals mg) (hfa : mg "law" = some (.ref fa))
    {C_Words : Addr}
    {C_StatementReader : Addr}
    {C_Game : Addr}
    {od_is_name an_is_name : Option Addr} {sl_is_name : Array (Option Value)} {oc_is_name kV_is_name dc_is_name pm_is_name cd_is_name ct_is_name : Value} {a_is_name : Addr}
    {od_is_number an_is_number : Option Addr} {sl_is_number : Array (Option Value)} {oc_is_number kV_is_number dc_is_number pm_is_number cd_is_number ct_is_number : Value} {a_is_number : Addr}
    {od_Words_init an_Words_init : Option Addr} {sl_Words_init : Array (Option Value)} {oc_Words_init kV_Words_init dc_Words_init pm_Words_init cd_Words_init ct_Words_init : Value} {a_Words_init : Addr}
    {od_Words_ended an_Words_ended : Option Addr} {sl_Words_ended : Array (Option Value)} {oc_Words_ended kV_Words_ended dc_Words_ended pm_Words_ended cd_Words_ended ct_Words_ended : Value} {a_Words_ended : Addr}
    {od_Words_ahead an_Words_ahead : Option Addr} {sl_Words_ahead : Array (Option Value)} {oc_Words_ahead kV_Words_ahead dc_Words_ahead pm_Words_ahead cd_Words_ahead ct_Words_ahead : Value} {a_Words_ahead : Addr}
    {od_Words_refuse an_Words_refuse : Option Addr} {sl_Words_refuse : Array (Option Value)} {oc_Words_refuse kV_Words_refuse dc_Words_refuse pm_Words_refuse cd_Words_refuse ct_Words_refuse : Value} {a_Words_refuse : Addr}
    {od_Words_take an_Words_take : Option Addr} {sl_Words_take : Array (Option Value)} {oc_Words_take kV_Words_take dc_Words_take pm_Words_take cd_Words_take ct_Words_take : Value} {a_Words_take : Addr}
    {od_Words_one_of an_Words_one_of : Option Addr} {sl_Words_one_of : Array (Option Value)} {oc_Words_one_of kV_Words_one_of dc_Words_one_of pm_Words_one_of cd_Words_one_of ct_Words_one_of : Value} {a_Words_one_of : Addr}
    {od_Words_name an_Words_name : Option Addr} {sl_Words_name : Array (Option Value)} {oc_Words_name kV_Words_name dc_Words_name pm_Words_name cd_Words_name ct_Words_name : Value} {a_Words_name : Addr} {dT_Words_name : Addr} {dc2_Words_name : Value} {dd2_Words_name : Option Addr} {dn_Words_name : Nat} {dsl_Words_name : Array (Option Value)} {te0_Words_name : Addr} {teo0_Words_name : Option Addr} {ten0_Words_name : Nat} {tes0_Words_name : Array (Option Value)}
    {od_Words_number an_Words_number : Option Addr} {sl_Words_number : Array (Option Value)} {oc_Words_number kV_Words_number dc_Words_number pm_Words_number cd_Words_number ct_Words_number : Value} {a_Words_number : Addr}
    {od_Words_finish an_Words_finish : Option Addr} {sl_Words_finish : Array (Option Value)} {oc_Words_finish kV_Words_finish dc_Words_finish pm_Words_finish cd_Words_finish ct_Words_finish : Value} {a_Words_finish : Addr}
    {od_read_expression an_read_expression : Option Addr} {sl_read_expression : Array (Option Value)} {oc_read_expression kV_read_expression dc_read_expression pm_read_expression cd_read_expression ct_read_expression : Value} {a_read_expression : Addr} {dT_read_expression : Addr} {dc2_read_expression : Value} {dd2_read_expression : Option Addr} {dn_read_expression : Nat} {dsl_read_expression : Array (Option Value)} {tk0_read_expression : Tok}
    {od_expression_words an_expression_words : Option Addr} {sl_expression_words : Array (Option Value)} {oc_expression_words kV_expression_words dc_expression_words pm_expression_words cd_expression_words ct_expression_words : Value} {a_expression_words : Addr}
    {od_StatementReader_init an_StatementReader_init : Option Addr} {sl_StatementReader_init : Array (Option Value)} {oc_StatementReader_init kV_StatementReader_init dc_StatementReader_init pm_StatementReader_init cd_StatementReader_init ct_StatementReader_init : Value} {a_StatementReader_init : Addr}
    {od_StatementReader_can_follow an_StatementReader_can_follow : Option Addr} {sl_StatementReader_can_follow : Array (Option Value)} {oc_StatementReader_can_follow kV_StatementReader_can_follow dc_StatementReader_can_follow pm_StatementReader_can_follow cd_StatementReader_can_follow ct_StatementReader_can_follow : Value} {a_StatementReader_can_follow : Addr}
    {od_StatementReader_can_start an_StatementReader_can_start : Option Addr} {sl_StatementReader_can_start : Array (Option Value)} {oc_StatementReader_can_start kV_StatementReader_can_start dc_StatementReader_can_start pm_StatementReader_can_start cd_StatementReader_can_start ct_StatementReader_can_start : Value} {a_StatementReader_can_start : Addr}
    {od_StatementReader_block an_StatementReader_block : Option Addr} {sl_StatementReader_block : Array (Option Value)} {oc_StatementReader_block kV_StatementReader_block dc_StatementReader_block pm_StatementReader_block cd_StatementReader_block ct_StatementReader_block : Value} {a_StatementReader_block : Addr} {dT_StatementReader_block : Addr} {dc2_StatementReader_block : Value} {dd2_StatementReader_block : Option Addr} {dn_StatementReader_block : Nat} {dsl_StatementReader_block : Array (Option Value)} {tk0_StatementReader_block : Tok}
    {od_StatementReader_statement an_StatementReader_statement : Option Addr} {sl_StatementReader_statement : Array (Option Value)} {oc_StatementReader_statement kV_StatementReader_statement dc_StatementReader_statement pm_StatementReader_statement cd_StatementReader_statement ct_StatementReader_statement : Value} {a_StatementReader_statement : Addr}
    {od_StatementReader_choice an_StatementReader_choice : Option Addr} {sl_StatementReader_choice : Array (Option Value)} {oc_StatementReader_choice kV_StatementReader_choice dc_StatementReader_choice pm_StatementReader_choice cd_StatementReader_choice ct_StatementReader_choice : Value} {a_StatementReader_choice : Addr}
    {od_StatementReader_part an_StatementReader_part : Option Addr} {sl_StatementReader_part : Array (Option Value)} {oc_StatementReader_part kV_StatementReader_part dc_StatementReader_part pm_StatementReader_part cd_StatementReader_part ct_StatementReader_part : Value} {a_StatementReader_part : Addr}
    {od_StatementReader_expression an_StatementReader_expression : Option Addr} {sl_StatementReader_expression : Array (Option Value)} {oc_StatementReader_expression kV_StatementReader_expression dc_StatementReader_expression pm_StatementReader_expression cd_StatementReader_expression ct_StatementReader_expression : Value} {a_StatementReader_expression : Addr}
    {od_block_words an_block_words : Option Addr} {sl_block_words : Array (Option Value)} {oc_block_words kV_block_words dc_block_words pm_block_words cd_block_words ct_block_words : Value} {a_block_words : Addr}
    {od_statement_words an_statement_words : Option Addr} {sl_statement_words : Array (Option Value)} {oc_statement_words kV_statement_words dc_statement_words pm_statement_words cd_statement_words ct_statement_words : Value} {a_statement_words : Addr}
    {od_choice_words an_choice_words : Option Addr} {sl_choice_words : Array (Option Value)} {oc_choice_words kV_choice_words dc_choice_words pm_choice_words cd_choice_words ct_choice_words : Value} {a_choice_words : Addr}
    {od_Game_init an_Game_init : Option Addr} {sl_Game_init : Array (Option Value)} {oc_Game_init kV_Game_init dc_Game_init pm_Game_init cd_Game_init ct_Game_init : Value} {a_Game_init : Addr}
    {od_Game_eq an_Game_eq : Option Addr} {sl_Game_eq : Array (Option Value)} {oc_Game_eq kV_Game_eq dc_Game_eq pm_Game_eq cd_Game_eq ct_Game_eq : Value} {a_Game_eq : Addr}
    {od_Game_proc an_Game_proc : Option Addr} {sl_Game_proc : Array (Option Value)} {oc_Game_proc kV_Game_proc dc_Game_proc pm_Game_proc cd_Game_proc ct_Game_proc : Value} {a_Game_proc : Addr}
    {od_read_game an_read_game : Option Addr} {sl_read_game : Array (Option Value)} {oc_read_game kV_read_game dc_read_game pm_read_game cd_read_game ct_read_game : Value} {a_read_game : Addr} {dT_read_game : Addr} {dc2_read_game : Value} {dd2_read_game : Option Addr} {dn_read_game : Nat} {dsl_read_game : Array (Option Value)} {te0_read_game : Addr} {teo0_read_game : Option Addr} {ten0_read_game : Nat} {tes0_read_game : Array (Option Value)}
    {od_first_parts an_first_parts : Option Addr} {sl_first_parts : Array (Option Value)} {oc_first_parts kV_first_parts dc_first_parts pm_first_parts cd_first_parts ct_first_parts : Value} {a_first_parts : Addr}
    {od_another an_another : Option Addr} {sl_another : Array (Option Value)} {oc_another kV_another dc_another pm_another cd_another ct_another : Value} {a_another : Addr}
    {od_read_variables an_read_variables : Option Addr} {sl_read_variables : Array (Option Value)} {oc_read_variables kV_read_variables dc_read_variables pm_read_variables cd_read_variables ct_read_variables : Value} {a_read_variables : Addr}
    {od_read_maps an_read_maps : Option Addr} {sl_read_maps : Array (Option Value)} {oc_read_maps kV_read_maps dc_read_maps pm_read_maps cd_read_maps ct_read_maps : Value} {a_read_maps : Addr}
    {od_read_procs an_read_procs : Option Addr} {sl_read_procs : Array (Option Value)} {oc_read_procs kV_read_procs dc_read_procs pm_read_procs cd_read_procs ct_read_procs : Value} {a_read_procs : Addr}
    {od_read_proc an_read_proc : Option Addr} {sl_read_proc : Array (Option Value)} {oc_read_proc kV_read_proc dc_read_proc pm_read_proc cd_read_proc ct_read_proc : Value} {a_read_proc : Addr}
    {od_read_locals an_read_locals : Option Addr} {sl_read_locals : Array (Option Value)} {oc_read_locals kV_read_locals dc_read_locals pm_read_locals cd_read_locals ct_read_locals : Value} {a_read_locals : Addr}
    {od_game_text an_game_text : Option Addr} {sl_game_text : Array (Option Value)} {oc_game_text kV_game_text dc_game_text pm_game_text cd_game_text ct_game_text : Value} {a_game_text : Addr}
    {od_row_words an_row_words : Option Addr} {sl_row_words : Array (Option Value)} {oc_row_words kV_row_words dc_row_words pm_row_words cd_row_words ct_row_words : Value} {a_row_words : Addr}
    {od_proc_words an_proc_words : Option Addr} {sl_proc_words : Array (Option Value)} {oc_proc_words kV_proc_words dc_proc_words pm_proc_words cd_proc_words ct_proc_words : Value} {a_proc_words : Addr}
    {od_law_cell an_law_cell : Option Addr} {sl_law_cell : Array (Option Value)} {oc_law_cell kV_law_cell dc_law_cell pm_law_cell cd_law_cell ct_law_cell : Value} {a_law_cell : Addr}
    {od_law_at an_law_at : Option Addr} {sl_law_at : Array (Option Value)} {oc_law_at kV_law_at dc_law_at pm_law_at cd_law_at ct_law_at : Value} {a_law_at : Addr}
    {od_law_many an_law_many : Option Addr} {sl_law_many : Array (Option Value)} {oc_law_many kV_law_many dc_law_many pm_law_many cd_law_many ct_law_many : Value} {a_law_many : Addr}
    {od_law_deep an_law_deep : Option Addr} {sl_law_deep : Array (Option Value)} {oc_law_deep kV_law_deep dc_law_deep pm_law_deep cd_law_deep ct_law_deep : Value} {a_law_deep : Addr}
    {od_law_tall an_law_tall : Option Addr} {sl_law_tall : Array (Option Value)} {oc_law_tall kV_law_tall dc_law_tall pm_law_tall cd_law_tall ct_law_tall : Value} {a_law_tall : Addr}
    {od_law_fixed an_law_fixed : Option Addr} {sl_law_fixed : Array (Option Value)} {oc_law_fixed kV_law_fixed dc_law_fixed pm_law_fixed cd_law_fixed ct_law_fixed : Value} {a_law_fixed : Addr}
    {od_law an_law : Option Addr} {sl_law : Array (Option Value)} {oc_law kV_law dc_law pm_law cd_law ct_law : Value} {a_law : Addr}
    {C_BadText : Addr}
    {od_BadText_init an_BadText_init : Option Addr} {sl_BadText_init : Array (Option Value)} {oc_BadText_init kV_BadText_init dc_BadText_init pm_BadText_init ct_BadText_init : Value} {a_BadText_init cda_BadText_init cc_BadText_init : Addr} {ccl_BadText_init cl_BadText_init : Value} {cdd_BadText_init cld_BadText_init : Option Addr} {ccs_BadText_init csl_BadText_init : Array (Option Value)} {vs_BadText_init : Array Value} {tf_BadText_init : Tok}
    {nm_BadText_init q_BadText_init : Str} {N_BadText_init : Addr} {bs_BadText_init bm_BadText_init : List Value} {sn_BadText_init : List Str} {sub_BadText_init : List Value} {ab_BadText_init : Bool} {col_BadText_init : Option Bool} {dd_BadText_init : Option Addr} {k0_BadText_init k1_BadText_init k2_BadText_init k3_BadText_init k5_BadText_init : Option Value}
    {file : Str}
    {a_OPERATORS : Addr} {od_OPERATORS : Option Addr} {n_OPERATORS : Nat} {sl_OPERATORS : Array (Option Value)} {t0_OPERATORS t1_OPERATORS t2_OPERATORS t3_OPERATORS t4_OPERATORS t5_OPERATORS t6_OPERATORS : Tok}
    {a_LOOKS : Addr} {od_LOOKS : Option Addr} {n_LOOKS : Nat} {sl_LOOKS : Array (Option Value)} {t0_LOOKS t1_LOOKS : Tok}
    {tk_DEEPEST_EXPRESSION : Tok}
    {tk_LONGEST_NAME : Tok}
    {tk_LONGEST_NUMBER : Tok}
    {tk_GREATEST_NUMBER : Tok}
    {tk_LETTERS : Tok}
    {tk_DIGITS : Tok}
    {a_KEY_WORDS : Addr} {od_KEY_WORDS : Option Addr} {n_KEY_WORDS : Nat} {sl_KEY_WORDS : Array (Option Value)} {t0_KEY_WORDS t1_KEY_WORDS t2_KEY_WORDS t3_KEY_WORDS t4_KEY_WORDS t5_KEY_WORDS t6_KEY_WORDS t7_KEY_WORDS t8_KEY_WORDS t9_KEY_WORDS t10_KEY_WORDS t11_KEY_WORDS t12_KEY_WORDS t13_KEY_WORDS t14_KEY_WORDS t15_KEY_WORDS t16_KEY_WORDS t17_KEY_WORDS t18_KEY_WORDS t19_KEY_WORDS : Tok}
    {tk_DEEPEST_STATEMENT : Tok}
    {tk_MOST_DRAWN : Tok}
    {tk_MOST_OF_A_KIND : Tok}
    {tk_MOST_LOCALS : Tok}
    {tk_GREATEST_COUNT : Tok}
    {a_FORMS : Addr}
    {n_FORMS : Nat} {h0_FORMS : Int} {t0_FORMS : Tok} {v0_FORMS : Addr} {od0_FORMS : Option Addr} {n0_FORMS : Nat} {sl0_FORMS : Array (Option Value)} {h1_FORMS : Int} {t1_FORMS : Tok} {v1_FORMS : Addr} {od1_FORMS : Option Addr} {n1_FORMS : Nat} {sl1_FORMS : Array (Option Value)} {h2_FORMS : Int} {t2_FORMS : Tok} {v2_FORMS : Addr} {od2_FORMS : Option Addr} {n2_FORMS : Nat} {sl2_FORMS : Array (Option Value)} {h3_FORMS : Int} {t3_FORMS : Tok} {v3_FORMS : Addr} {od3_FORMS : Option Addr} {n3_FORMS : Nat} {sl3_FORMS : Array (Option Value)} {h4_FORMS : Int} {t4_FORMS : Tok} {v4_FORMS : Addr} {od4_FORMS : Option Addr} {n4_FORMS : Nat} {sl4_FORMS : Array (Option Value)} {h5_FORMS : Int} {t5_FORMS : Tok} {v5_FORMS : Addr} {od5_FORMS : Option Addr} {n5_FORMS : Nat} {sl5_FORMS : Array (Option Value)} {h6_FORMS : Int} {t6_FORMS : Tok} {v6_FORMS : Addr} {od6_FORMS : Option Addr} {n6_FORMS : Nat} {sl6_FORMS : Array (Option Value)}
    {t0_0_FORMS t0_1_FORMS : Tok}
    {t1_0_FORMS t1_1_FORMS : Tok}
    {t2_0_FORMS t2_1_FORMS : Tok}
    {t3_0_FORMS t3_1_FORMS t3_2_FORMS : Tok}
    {t4_0_FORMS t4_1_FORMS t4_2_FORMS : Tok}
    {t5_0_FORMS t5_1_FORMS t5_2_FORMS : Tok}
    (hC_Words : PySem.W.nsIn K mainGlobals "Words" = some (some (.ref C_Words)))
    (pg_Words : PySem.W.plainGet K C_Words Str.empty = true)
    (hd_Words : PySem.W.hasDictIn K C_Words = true)
    (po_Words : PySem.W.plainOver K C_Words = true)
    (sa_Words : PySem.W.findIn K (.ref C_Words) "__setattr__" = some (some (.builtin "object.__setattr__")))
    (mk_Words : PySem.W.makesIn K C_Words = true)
    (kc_Words : PySem.W.keepIn K (.ref C_Words) = true)
    (sf_Words : PySem.W.selfFirst K C_Words = true)
    (na_Words_words : PySem.W.findIn K (.ref C_Words) "words" = some none)
    (na_Words_at : PySem.W.findIn K (.ref C_Words) "at" = some none)
    (hC_StatementReader : PySem.W.nsIn K mainGlobals "StatementReader" = some (some (.ref C_StatementReader)))
    (pg_StatementReader : PySem.W.plainGet K C_StatementReader Str.empty = true)
    (hd_StatementReader : PySem.W.hasDictIn K C_StatementReader = true)
    (po_StatementReader : PySem.W.plainOver K C_StatementReader = true)
    (sa_StatementReader : PySem.W.findIn K (.ref C_StatementReader) "__setattr__" = some (some (.builtin "object.__setattr__")))
    (mk_StatementReader : PySem.W.makesIn K C_StatementReader = true)
    (kc_StatementReader : PySem.W.keepIn K (.ref C_StatementReader) = true)
    (sf_StatementReader : PySem.W.selfFirst K C_StatementReader = true)
    (na_StatementReader_words : PySem.W.findIn K (.ref C_StatementReader) "words" = some none)
    (na_StatementReader_names : PySem.W.findIn K (.ref C_StatementReader) "names" = some none)
    (na_StatementReader_meanings : PySem.W.findIn K (.ref C_StatementReader) "meanings" = some none)
    (na_StatementReader_starts : PySem.W.findIn K (.ref C_StatementReader) "starts" = some none)
    (hC_Game : PySem.W.nsIn K mainGlobals "Game" = some (some (.ref C_Game)))
    (pg_Game : PySem.W.plainGet K C_Game Str.empty = true)
    (hd_Game : PySem.W.hasDictIn K C_Game = true)
    (po_Game : PySem.W.plainOver K C_Game = true)
    (sa_Game : PySem.W.findIn K (.ref C_Game) "__setattr__" = some (some (.builtin "object.__setattr__")))
    (mk_Game : PySem.W.makesIn K C_Game = true)
    (kc_Game : PySem.W.keepIn K (.ref C_Game) = true)
    (sf_Game : PySem.W.selfFirst K C_Game = true)
    (na_Game_variables : PySem.W.findIn K (.ref C_Game) "variables" = some none)
    (na_Game_tables : PySem.W.findIn K (.ref C_Game) "tables" = some none)
    (na_Game_lots : PySem.W.findIn K (.ref C_Game) "lots" = some none)
    (na_Game_procs : PySem.W.findIn K (.ref C_Game) "procs" = some none)
    (ia_Game : PySem.W.findIn K (.ref C_Game) "__class__" = some (some (.builtin "object.__class__")))
    (im_Game : PySem.W.mroIn K C_Game (.type "object") = some true)
    (ik_Game : PySem.W.kitOne K (.ref C_Game) (.ref C_Game) = some true)
    (h_is_name : PySem.W.nsIn K mainGlobals "is_name" = some (some (.ref a_is_name)))
    (l_is_name : K.lookup a_is_name = some ⟨oc_is_name, od_is_name, .func (PySem.W.fnOf "is_name" "is_name" (defArgs s_is_name) (defBody s_is_name) (defScope s_is_name) .none kV_is_name dc_is_name pm_is_name an_is_name cd_is_name ct_is_name), sl_is_name⟩)
    (c_is_name : PySem.W.codeIn K cd_is_name "is_name" = true)
    (k_is_name : PySem.W.keepIn K (.ref a_is_name) = true)
    (h_is_number : PySem.W.nsIn K mainGlobals "is_number" = some (some (.ref a_is_number)))
    (l_is_number : K.lookup a_is_number = some ⟨oc_is_number, od_is_number, .func (PySem.W.fnOf "is_number" "is_number" (defArgs s_is_number) (defBody s_is_number) (defScope s_is_number) .none kV_is_number dc_is_number pm_is_number an_is_number cd_is_number ct_is_number), sl_is_number⟩)
    (c_is_number : PySem.W.codeIn K cd_is_number "is_number" = true)
    (k_is_number : PySem.W.keepIn K (.ref a_is_number) = true)
    (h_Words_init : PySem.W.findIn K (.ref C_Words) "__init__" = some (some (.ref a_Words_init)))
    (i_Words_init : PySem.W.isFn K (.ref a_Words_init) = true)
    (l_Words_init : K.lookup a_Words_init = some ⟨oc_Words_init, od_Words_init, .func (PySem.W.fnOf "__init__" "Words.__init__" (defArgs s_Words_init) (defBody s_Words_init) (defScope s_Words_init) .none kV_Words_init dc_Words_init pm_Words_init an_Words_init cd_Words_init ct_Words_init), sl_Words_init⟩)
    (c_Words_init : PySem.W.codeIn K cd_Words_init "Words.__init__" = true)
    (k_Words_init : PySem.W.keepIn K (.ref a_Words_init) = true)
    (h_Words_ended : PySem.W.findIn K (.ref C_Words) "ended" = some (some (.ref a_Words_ended)))
    (i_Words_ended : PySem.W.isFn K (.ref a_Words_ended) = true)
    (l_Words_ended : K.lookup a_Words_ended = some ⟨oc_Words_ended, od_Words_ended, .func (PySem.W.fnOf "ended" "Words.ended" (defArgs s_Words_ended) (defBody s_Words_ended) (defScope s_Words_ended) .none kV_Words_ended dc_Words_ended pm_Words_ended an_Words_ended cd_Words_ended ct_Words_ended), sl_Words_ended⟩)
    (c_Words_ended : PySem.W.codeIn K cd_Words_ended "Words.ended" = true)
    (k_Words_ended : PySem.W.keepIn K (.ref a_Words_ended) = true)
    (h_Words_ahead : PySem.W.findIn K (.ref C_Words) "ahead" = some (some (.ref a_Words_ahead)))
    (i_Words_ahead : PySem.W.isFn K (.ref a_Words_ahead) = true)
    (l_Words_ahead : K.lookup a_Words_ahead = some ⟨oc_Words_ahead, od_Words_ahead, .func (PySem.W.fnOf "ahead" "Words.ahead" (defArgs s_Words_ahead) (defBody s_Words_ahead) (defScope s_Words_ahead) .none kV_Words_ahead dc_Words_ahead pm_Words_ahead an_Words_ahead cd_Words_ahead ct_Words_ahead), sl_Words_ahead⟩)
    (c_Words_ahead : PySem.W.codeIn K cd_Words_ahead "Words.ahead" = true)
    (k_Words_ahead : PySem.W.keepIn K (.ref a_Words_ahead) = true)
    (h_Words_refuse : PySem.W.findIn K (.ref C_Words) "refuse" = some (some (.ref a_Words_refuse)))
    (i_Words_refuse : PySem.W.isFn K (.ref a_Words_refuse) = true)
    (l_Words_refuse : K.lookup a_Words_refuse = some ⟨oc_Words_refuse, od_Words_refuse, .func (PySem.W.fnOf "refuse" "Words.refuse" (defArgs s_Words_refuse) (defBody s_Words_refuse) (defScope s_Words_refuse) .none kV_Words_refuse dc_Words_refuse pm_Words_refuse an_Words_refuse cd_Words_refuse ct_Words_refuse), sl_Words_refuse⟩)
    (c_Words_refuse : PySem.W.codeIn K cd_Words_refuse "Words.refuse" = true)
    (k_Words_refuse : PySem.W.keepIn K (.ref a_Words_refuse) = true)
    (h_Words_take : PySem.W.findIn K (.ref C_Words) "take" = some (some (.ref a_Words_take)))
    (i_Words_take : PySem.W.isFn K (.ref a_Words_take) = true)
    (l_Words_take : K.lookup a_Words_take = some ⟨oc_Words_take, od_Words_take, .func (PySem.W.fnOf "take" "Words.take" (defArgs s_Words_take) (defBody s_Words_take) (defScope s_Words_take) .none kV_Words_take dc_Words_take pm_Words_take an_Words_take cd_Words_take ct_Words_take), sl_Words_take⟩)
    (c_Words_take : PySem.W.codeIn K cd_Words_take "Words.take" = true)
    (k_Words_take : PySem.W.keepIn K (.ref a_Words_take) = true)
    (h_Words_one_of : PySem.W.findIn K (.ref C_Words) "one_of" = some (some (.ref a_Words_one_of)))
    (i_Words_one_of : PySem.W.isFn K (.ref a_Words_one_of) = true)
    (l_Words_one_of : K.lookup a_Words_one_of = some ⟨oc_Words_one_of, od_Words_one_of, .func (PySem.W.fnOf "one_of" "Words.one_of" (defArgs s_Words_one_of) (defBody s_Words_one_of) (defScope s_Words_one_of) .none kV_Words_one_of dc_Words_one_of pm_Words_one_of an_Words_one_of cd_Words_one_of ct_Words_one_of), sl_Words_one_of⟩)
    (c_Words_one_of : PySem.W.codeIn K cd_Words_one_of "Words.one_of" = true)
    (k_Words_one_of : PySem.W.keepIn K (.ref a_Words_one_of) = true)
    (h_Words_name : PySem.W.findIn K (.ref C_Words) "name" = some (some (.ref a_Words_name)))
    (i_Words_name : PySem.W.isFn K (.ref a_Words_name) = true)
    (l_Words_name : K.lookup a_Words_name = some ⟨oc_Words_name, od_Words_name, .func (PySem.W.fnOf "name" "Words.name" (defArgs s_Words_name) (defBody s_Words_name) (defScope s_Words_name) (.ref dT_Words_name) kV_Words_name dc_Words_name pm_Words_name an_Words_name cd_Words_name ct_Words_name), sl_Words_name⟩)
    (dl_Words_name : K.lookup dT_Words_name = some ⟨dc2_Words_name, dd2_Words_name, .seq #[.ref te0_Words_name] dn_Words_name, dsl_Words_name⟩)
    (lt0_Words_name : K.lookup te0_Words_name = some ⟨.type "tuple", teo0_Words_name, .seq #[] ten0_Words_name, tes0_Words_name⟩)
    (c_Words_name : PySem.W.codeIn K cd_Words_name "Words.name" = true)
    (k_Words_name : PySem.W.keepIn K (.ref a_Words_name) = true)
    (h_Words_number : PySem.W.findIn K (.ref C_Words) "number" = some (some (.ref a_Words_number)))
    (i_Words_number : PySem.W.isFn K (.ref a_Words_number) = true)
    (l_Words_number : K.lookup a_Words_number = some ⟨oc_Words_number, od_Words_number, .func (PySem.W.fnOf "number" "Words.number" (defArgs s_Words_number) (defBody s_Words_number) (defScope s_Words_number) .none kV_Words_number dc_Words_number pm_Words_number an_Words_number cd_Words_number ct_Words_number), sl_Words_number⟩)
    (c_Words_number : PySem.W.codeIn K cd_Words_number "Words.number" = true)
    (k_Words_number : PySem.W.keepIn K (.ref a_Words_number) = true)
    (h_Words_finish : PySem.W.findIn K (.ref C_Words) "finish" = some (some (.ref a_Words_finish)))
    (i_Words_finish : PySem.W.isFn K (.ref a_Words_finish) = true)
    (l_Words_finish : K.lookup a_Words_finish = some ⟨oc_Words_finish, od_Words_finish, .func (PySem.W.fnOf "finish" "Words.finish" (defArgs s_Words_finish) (defBody s_Words_finish) (defScope s_Words_finish) .none kV_Words_finish dc_Words_finish pm_Words_finish an_Words_finish cd_Words_finish ct_Words_finish), sl_Words_finish⟩)
    (c_Words_finish : PySem.W.codeIn K cd_Words_finish "Words.finish" = true)
    (k_Words_finish : PySem.W.keepIn K (.ref a_Words_finish) = true)
    (h_read_expression : PySem.W.nsIn K mainGlobals "read_expression" = some (some (.ref a_read_expression)))
    (l_read_expression : K.lookup a_read_expression = some ⟨oc_read_expression, od_read_expression, .func (PySem.W.fnOf "read_expression" "read_expression" (defArgs s_read_expression) (defBody s_read_expression) (defScope s_read_expression) (.ref dT_read_expression) kV_read_expression dc_read_expression pm_read_expression an_read_expression cd_read_expression ct_read_expression), sl_read_expression⟩)
    (dl_read_expression : K.lookup dT_read_expression = some ⟨dc2_read_expression, dd2_read_expression, .seq #[.int 1 tk0_read_expression] dn_read_expression, dsl_read_expression⟩)
    (c_read_expression : PySem.W.codeIn K cd_read_expression "read_expression" = true)
    (k_read_expression : PySem.W.keepIn K (.ref a_read_expression) = true)
    (h_expression_words : PySem.W.nsIn K mainGlobals "expression_words" = some (some (.ref a_expression_words)))
    (l_expression_words : K.lookup a_expression_words = some ⟨oc_expression_words, od_expression_words, .func (PySem.W.fnOf "expression_words" "expression_words" (defArgs s_expression_words) (defBody s_expression_words) (defScope s_expression_words) .none kV_expression_words dc_expression_words pm_expression_words an_expression_words cd_expression_words ct_expression_words), sl_expression_words⟩)
    (c_expression_words : PySem.W.codeIn K cd_expression_words "expression_words" = true)
    (k_expression_words : PySem.W.keepIn K (.ref a_expression_words) = true)
    (h_StatementReader_init : PySem.W.findIn K (.ref C_StatementReader) "__init__" = some (some (.ref a_StatementReader_init)))
    (i_StatementReader_init : PySem.W.isFn K (.ref a_StatementReader_init) = true)
    (l_StatementReader_init : K.lookup a_StatementReader_init = some ⟨oc_StatementReader_init, od_StatementReader_init, .func (PySem.W.fnOf "__init__" "StatementReader.__init__" (defArgs s_StatementReader_init) (defBody s_StatementReader_init) (defScope s_StatementReader_init) .none kV_StatementReader_init dc_StatementReader_init pm_StatementReader_init an_StatementReader_init cd_StatementReader_init ct_StatementReader_init), sl_StatementReader_init⟩)
    (c_StatementReader_init : PySem.W.codeIn K cd_StatementReader_init "StatementReader.__init__" = true)
    (k_StatementReader_init : PySem.W.keepIn K (.ref a_StatementReader_init) = true)
    (h_StatementReader_can_follow : PySem.W.findIn K (.ref C_StatementReader) "can_follow" = some (some (.ref a_StatementReader_can_follow)))
    (i_StatementReader_can_follow : PySem.W.isFn K (.ref a_StatementReader_can_follow) = true)
    (l_StatementReader_can_follow : K.lookup a_StatementReader_can_follow = some ⟨oc_StatementReader_can_follow, od_StatementReader_can_follow, .func (PySem.W.fnOf "can_follow" "StatementReader.can_follow" (defArgs s_StatementReader_can_follow) (defBody s_StatementReader_can_follow) (defScope s_StatementReader_can_follow) .none kV_StatementReader_can_follow dc_StatementReader_can_follow pm_StatementReader_can_follow an_StatementReader_can_follow cd_StatementReader_can_follow ct_StatementReader_can_follow), sl_StatementReader_can_follow⟩)
    (c_StatementReader_can_follow : PySem.W.codeIn K cd_StatementReader_can_follow "StatementReader.can_follow" = true)
    (k_StatementReader_can_follow : PySem.W.keepIn K (.ref a_StatementReader_can_follow) = true)
    (h_StatementReader_can_start : PySem.W.findIn K (.ref C_StatementReader) "can_start" = some (some (.ref a_StatementReader_can_start)))
    (i_StatementReader_can_start : PySem.W.isFn K (.ref a_StatementReader_can_start) = true)
    (l_StatementReader_can_start : K.lookup a_StatementReader_can_start = some ⟨oc_StatementReader_can_start, od_StatementReader_can_start, .func (PySem.W.fnOf "can_start" "StatementReader.can_start" (defArgs s_StatementReader_can_start) (defBody s_StatementReader_can_start) (defScope s_StatementReader_can_start) .none kV_StatementReader_can_start dc_StatementReader_can_start pm_StatementReader_can_start an_StatementReader_can_start cd_StatementReader_can_start ct_StatementReader_can_start), sl_StatementReader_can_start⟩)
    (c_StatementReader_can_start : PySem.W.codeIn K cd_StatementReader_can_start "StatementReader.can_start" = true)
    (k_StatementReader_can_start : PySem.W.keepIn K (.ref a_StatementReader_can_start) = true)
    (h_StatementReader_block : PySem.W.findIn K (.ref C_StatementReader) "block" = some (some (.ref a_StatementReader_block)))
    (i_StatementReader_block : PySem.W.isFn K (.ref a_StatementReader_block) = true)
    (l_StatementReader_block : K.lookup a_StatementReader_block = some ⟨oc_StatementReader_block, od_StatementReader_block, .func (PySem.W.fnOf "block" "StatementReader.block" (defArgs s_StatementReader_block) (defBody s_StatementReader_block) (defScope s_StatementReader_block) (.ref dT_StatementReader_block) kV_StatementReader_block dc_StatementReader_block pm_StatementReader_block an_StatementReader_block cd_StatementReader_block ct_StatementReader_block), sl_StatementReader_block⟩)
    (dl_StatementReader_block : K.lookup dT_StatementReader_block = some ⟨dc2_StatementReader_block, dd2_StatementReader_block, .seq #[.int 0 tk0_StatementReader_block] dn_StatementReader_block, dsl_StatementReader_block⟩)
    (c_StatementReader_block : PySem.W.codeIn K cd_StatementReader_block "StatementReader.block" = true)
    (k_StatementReader_block : PySem.W.keepIn K (.ref a_StatementReader_block) = true)
    (h_StatementReader_statement : PySem.W.findIn K (.ref C_StatementReader) "statement" = some (some (.ref a_StatementReader_statement)))
    (i_StatementReader_statement : PySem.W.isFn K (.ref a_StatementReader_statement) = true)
    (l_StatementReader_statement : K.lookup a_StatementReader_statement = some ⟨oc_StatementReader_statement, od_StatementReader_statement, .func (PySem.W.fnOf "statement" "StatementReader.statement" (defArgs s_StatementReader_statement) (defBody s_StatementReader_statement) (defScope s_StatementReader_statement) .none kV_StatementReader_statement dc_StatementReader_statement pm_StatementReader_statement an_StatementReader_statement cd_StatementReader_statement ct_StatementReader_statement), sl_StatementReader_statement⟩)
    (c_StatementReader_statement : PySem.W.codeIn K cd_StatementReader_statement "StatementReader.statement" = true)
    (k_StatementReader_statement : PySem.W.keepIn K (.ref a_StatementReader_statement) = true)
    (h_StatementReader_choice : PySem.W.findIn K (.ref C_StatementReader) "choice" = some (some (.ref a_StatementReader_choice)))
    (i_StatementReader_choice : PySem.W.isFn K (.ref a_StatementReader_choice) = true)
    (l_StatementReader_choice : K.lookup a_StatementReader_choice = some ⟨oc_StatementReader_choice, od_StatementReader_choice, .func (PySem.W.fnOf "choice" "StatementReader.choice" (defArgs s_StatementReader_choice) (defBody s_StatementReader_choice) (defScope s_StatementReader_choice) .none kV_StatementReader_choice dc_StatementReader_choice pm_StatementReader_choice an_StatementReader_choice cd_StatementReader_choice ct_StatementReader_choice), sl_StatementReader_choice⟩)
    (c_StatementReader_choice : PySem.W.codeIn K cd_StatementReader_choice "StatementReader.choice" = true)
    (k_StatementReader_choice : PySem.W.keepIn K (.ref a_StatementReader_choice) = true)
    (h_StatementReader_part : PySem.W.findIn K (.ref C_StatementReader) "part" = some (some (.ref a_StatementReader_part)))
    (i_StatementReader_part : PySem.W.isFn K (.ref a_StatementReader_part) = true)
    (l_StatementReader_part : K.lookup a_StatementReader_part = some ⟨oc_StatementReader_part, od_StatementReader_part, .func (PySem.W.fnOf "part" "StatementReader.part" (defArgs s_StatementReader_part) (defBody s_StatementReader_part) (defScope s_StatementReader_part) .none kV_StatementReader_part dc_StatementReader_part pm_StatementReader_part an_StatementReader_part cd_StatementReader_part ct_StatementReader_part), sl_StatementReader_part⟩)
    (c_StatementReader_part : PySem.W.codeIn K cd_StatementReader_part "StatementReader.part" = true)
    (k_StatementReader_part : PySem.W.keepIn K (.ref a_StatementReader_part) = true)
    (h_StatementReader_expression : PySem.W.findIn K (.ref C_StatementReader) "expression" = some (some (.ref a_StatementReader_expression)))
    (i_StatementReader_expression : PySem.W.isFn K (.ref a_StatementReader_expression) = true)
    (l_StatementReader_expression : K.lookup a_StatementReader_expression = some ⟨oc_StatementReader_expression, od_StatementReader_expression, .func (PySem.W.fnOf "expression" "StatementReader.expression" (defArgs s_StatementReader_expression) (defBody s_StatementReader_expression) (defScope s_StatementReader_expression) .none kV_StatementReader_expression dc_StatementReader_expression pm_StatementReader_expression an_StatementReader_expression cd_StatementReader_expression ct_StatementReader_expression), sl_StatementReader_expression⟩)
    (c_StatementReader_expression : PySem.W.codeIn K cd_StatementReader_expression "StatementReader.expression" = true)
    (k_StatementReader_expression : PySem.W.keepIn K (.ref a_StatementReader_expression) = true)
    (h_block_words : PySem.W.nsIn K mainGlobals "block_words" = some (some (.ref a_block_words)))
    (l_block_words : K.lookup a_block_words = some ⟨oc_block_words, od_block_words, .func (PySem.W.fnOf "block_words" "block_words" (defArgs s_block_words) (defBody s_block_words) (defScope s_block_words) .none kV_block_words dc_block_words pm_block_words an_block_words cd_block_words ct_block_words), sl_block_words⟩)
    (c_block_words : PySem.W.codeIn K cd_block_words "block_words" = true)
    (k_block_words : PySem.W.keepIn K (.ref a_block_words) = true)
    (h_statement_words : PySem.W.nsIn K mainGlobals "statement_words" = some (some (.ref a_statement_words)))
    (l_statement_words : K.lookup a_statement_words = some ⟨oc_statement_words, od_statement_words, .func (PySem.W.fnOf "statement_words" "statement_words" (defArgs s_statement_words) (defBody s_statement_words) (defScope s_statement_words) .none kV_statement_words dc_statement_words pm_statement_words an_statement_words cd_statement_words ct_statement_words), sl_statement_words⟩)
    (c_statement_words : PySem.W.codeIn K cd_statement_words "statement_words" = true)
    (k_statement_words : PySem.W.keepIn K (.ref a_statement_words) = true)
    (h_choice_words : PySem.W.nsIn K mainGlobals "choice_words" = some (some (.ref a_choice_words)))
    (l_choice_words : K.lookup a_choice_words = some ⟨oc_choice_words, od_choice_words, .func (PySem.W.fnOf "choice_words" "choice_words" (defArgs s_choice_words) (defBody s_choice_words) (defScope s_choice_words) .none kV_choice_words dc_choice_words pm_choice_words an_choice_words cd_choice_words ct_choice_words), sl_choice_words⟩)
    (c_choice_words : PySem.W.codeIn K cd_choice_words "choice_words" = true)
    (k_choice_words : PySem.W.keepIn K (.ref a_choice_words) = true)
    (h_Game_init : PySem.W.findIn K (.ref C_Game) "__init__" = some (some (.ref a_Game_init)))
    (i_Game_init : PySem.W.isFn K (.ref a_Game_init) = true)
    (l_Game_init : K.lookup a_Game_init = some ⟨oc_Game_init, od_Game_init, .func (PySem.W.fnOf "__init__" "Game.__init__" (defArgs s_Game_init) (defBody s_Game_init) (defScope s_Game_init) .none kV_Game_init dc_Game_init pm_Game_init an_Game_init cd_Game_init ct_Game_init), sl_Game_init⟩)
    (c_Game_init : PySem.W.codeIn K cd_Game_init "Game.__init__" = true)
    (k_Game_init : PySem.W.keepIn K (.ref a_Game_init) = true)
    (h_Game_eq : PySem.W.findIn K (.ref C_Game) "__eq__" = some (some (.ref a_Game_eq)))
    (i_Game_eq : PySem.W.isFn K (.ref a_Game_eq) = true)
    (l_Game_eq : K.lookup a_Game_eq = some ⟨oc_Game_eq, od_Game_eq, .func (PySem.W.fnOf "__eq__" "Game.__eq__" (defArgs s_Game_eq) (defBody s_Game_eq) (defScope s_Game_eq) .none kV_Game_eq dc_Game_eq pm_Game_eq an_Game_eq cd_Game_eq ct_Game_eq), sl_Game_eq⟩)
    (c_Game_eq : PySem.W.codeIn K cd_Game_eq "Game.__eq__" = true)
    (k_Game_eq : PySem.W.keepIn K (.ref a_Game_eq) = true)
    (h_Game_proc : PySem.W.findIn K (.ref C_Game) "proc" = some (some (.ref a_Game_proc)))
    (i_Game_proc : PySem.W.isFn K (.ref a_Game_proc) = true)
    (l_Game_proc : K.lookup a_Game_proc = some ⟨oc_Game_proc, od_Game_proc, .func (PySem.W.fnOf "proc" "Game.proc" (defArgs s_Game_proc) (defBody s_Game_proc) (defScope s_Game_proc) .none kV_Game_proc dc_Game_proc pm_Game_proc an_Game_proc cd_Game_proc ct_Game_proc), sl_Game_proc⟩)
    (c_Game_proc : PySem.W.codeIn K cd_Game_proc "Game.proc" = true)
    (k_Game_proc : PySem.W.keepIn K (.ref a_Game_proc) = true)
    (h_read_game : PySem.W.nsIn K mainGlobals "read_game" = some (some (.ref a_read_game)))
    (l_read_game : K.lookup a_read_game = some ⟨oc_read_game, od_read_game, .func (PySem.W.fnOf "read_game" "read_game" (defArgs s_read_game) (defBody s_read_game) (defScope s_read_game) (.ref dT_read_game) kV_read_game dc_read_game pm_read_game an_read_game cd_read_game ct_read_game), sl_read_game⟩)
    (dl_read_game : K.lookup dT_read_game = some ⟨dc2_read_game, dd2_read_game, .seq #[.ref te0_read_game] dn_read_game, dsl_read_game⟩)
    (lt0_read_game : K.lookup te0_read_game = some ⟨.type "tuple", teo0_read_game, .seq #[] ten0_read_game, tes0_read_game⟩)
    (c_read_game : PySem.W.codeIn K cd_read_game "read_game" = true)
    (k_read_game : PySem.W.keepIn K (.ref a_read_game) = true)
    (h_first_parts : PySem.W.nsIn K mainGlobals "first_parts" = some (some (.ref a_first_parts)))
    (l_first_parts : K.lookup a_first_parts = some ⟨oc_first_parts, od_first_parts, .func (PySem.W.fnOf "first_parts" "first_parts" (defArgs s_first_parts) (defBody s_first_parts) (defScope s_first_parts) .none kV_first_parts dc_first_parts pm_first_parts an_first_parts cd_first_parts ct_first_parts), sl_first_parts⟩)
    (c_first_parts : PySem.W.codeIn K cd_first_parts "first_parts" = true)
    (k_first_parts : PySem.W.keepIn K (.ref a_first_parts) = true)
    (h_another : PySem.W.nsIn K mainGlobals "another" = some (some (.ref a_another)))
    (l_another : K.lookup a_another = some ⟨oc_another, od_another, .func (PySem.W.fnOf "another" "another" (defArgs s_another) (defBody s_another) (defScope s_another) .none kV_another dc_another pm_another an_another cd_another ct_another), sl_another⟩)
    (c_another : PySem.W.codeIn K cd_another "another" = true)
    (k_another : PySem.W.keepIn K (.ref a_another) = true)
    (h_read_variables : PySem.W.nsIn K mainGlobals "read_variables" = some (some (.ref a_read_variables)))
    (l_read_variables : K.lookup a_read_variables = some ⟨oc_read_variables, od_read_variables, .func (PySem.W.fnOf "read_variables" "read_variables" (defArgs s_read_variables) (defBody s_read_variables) (defScope s_read_variables) .none kV_read_variables dc_read_variables pm_read_variables an_read_variables cd_read_variables ct_read_variables), sl_read_variables⟩)
    (c_read_variables : PySem.W.codeIn K cd_read_variables "read_variables" = true)
    (k_read_variables : PySem.W.keepIn K (.ref a_read_variables) = true)
    (h_read_maps : PySem.W.nsIn K mainGlobals "read_maps" = some (some (.ref a_read_maps)))
    (l_read_maps : K.lookup a_read_maps = some ⟨oc_read_maps, od_read_maps, .func (PySem.W.fnOf "read_maps" "read_maps" (defArgs s_read_maps) (defBody s_read_maps) (defScope s_read_maps) .none kV_read_maps dc_read_maps pm_read_maps an_read_maps cd_read_maps ct_read_maps), sl_read_maps⟩)
    (c_read_maps : PySem.W.codeIn K cd_read_maps "read_maps" = true)
    (k_read_maps : PySem.W.keepIn K (.ref a_read_maps) = true)
    (h_read_procs : PySem.W.nsIn K mainGlobals "read_procs" = some (some (.ref a_read_procs)))
    (l_read_procs : K.lookup a_read_procs = some ⟨oc_read_procs, od_read_procs, .func (PySem.W.fnOf "read_procs" "read_procs" (defArgs s_read_procs) (defBody s_read_procs) (defScope s_read_procs) .none kV_read_procs dc_read_procs pm_read_procs an_read_procs cd_read_procs ct_read_procs), sl_read_procs⟩)
    (c_read_procs : PySem.W.codeIn K cd_read_procs "read_procs" = true)
    (k_read_procs : PySem.W.keepIn K (.ref a_read_procs) = true)
    (h_read_proc : PySem.W.nsIn K mainGlobals "read_proc" = some (some (.ref a_read_proc)))
    (l_read_proc : K.lookup a_read_proc = some ⟨oc_read_proc, od_read_proc, .func (PySem.W.fnOf "read_proc" "read_proc" (defArgs s_read_proc) (defBody s_read_proc) (defScope s_read_proc) .none kV_read_proc dc_read_proc pm_read_proc an_read_proc cd_read_proc ct_read_proc), sl_read_proc⟩)
    (c_read_proc : PySem.W.codeIn K cd_read_proc "read_proc" = true)
    (k_read_proc : PySem.W.keepIn K (.ref a_read_proc) = true)
    (h_read_locals : PySem.W.nsIn K mainGlobals "read_locals" = some (some (.ref a_read_locals)))
    (l_read_locals : K.lookup a_read_locals = some ⟨oc_read_locals, od_read_locals, .func (PySem.W.fnOf "read_locals" "read_locals" (defArgs s_read_locals) (defBody s_read_locals) (defScope s_read_locals) .none kV_read_locals dc_read_locals pm_read_locals an_read_locals cd_read_locals ct_read_locals), sl_read_locals⟩)
    (c_read_locals : PySem.W.codeIn K cd_read_locals "read_locals" = true)
    (k_read_locals : PySem.W.keepIn K (.ref a_read_locals) = true)
    (h_game_text : PySem.W.nsIn K mainGlobals "game_text" = some (some (.ref a_game_text)))
    (l_game_text : K.lookup a_game_text = some ⟨oc_game_text, od_game_text, .func (PySem.W.fnOf "game_text" "game_text" (defArgs s_game_text) (defBody s_game_text) (defScope s_game_text) .none kV_game_text dc_game_text pm_game_text an_game_text cd_game_text ct_game_text), sl_game_text⟩)
    (c_game_text : PySem.W.codeIn K cd_game_text "game_text" = true)
    (k_game_text : PySem.W.keepIn K (.ref a_game_text) = true)
    (h_row_words : PySem.W.nsIn K mainGlobals "row_words" = some (some (.ref a_row_words)))
    (l_row_words : K.lookup a_row_words = some ⟨oc_row_words, od_row_words, .func (PySem.W.fnOf "row_words" "row_words" (defArgs s_row_words) (defBody s_row_words) (defScope s_row_words) .none kV_row_words dc_row_words pm_row_words an_row_words cd_row_words ct_row_words), sl_row_words⟩)
    (c_row_words : PySem.W.codeIn K cd_row_words "row_words" = true)
    (k_row_words : PySem.W.keepIn K (.ref a_row_words) = true)
    (h_proc_words : PySem.W.nsIn K mainGlobals "proc_words" = some (some (.ref a_proc_words)))
    (l_proc_words : K.lookup a_proc_words = some ⟨oc_proc_words, od_proc_words, .func (PySem.W.fnOf "proc_words" "proc_words" (defArgs s_proc_words) (defBody s_proc_words) (defScope s_proc_words) .none kV_proc_words dc_proc_words pm_proc_words an_proc_words cd_proc_words ct_proc_words), sl_proc_words⟩)
    (c_proc_words : PySem.W.codeIn K cd_proc_words "proc_words" = true)
    (k_proc_words : PySem.W.keepIn K (.ref a_proc_words) = true)
    (h_law_cell : PySem.W.nsIn K mainGlobals "_law_cell" = some (some (.ref a_law_cell)))
    (l_law_cell : K.lookup a_law_cell = some ⟨oc_law_cell, od_law_cell, .func (PySem.W.fnOf "_law_cell" "_law_cell" (defArgs s_law_cell) (defBody s_law_cell) (defScope s_law_cell) .none kV_law_cell dc_law_cell pm_law_cell an_law_cell cd_law_cell ct_law_cell), sl_law_cell⟩)
    (c_law_cell : PySem.W.codeIn K cd_law_cell "_law_cell" = true)
    (k_law_cell : PySem.W.keepIn K (.ref a_law_cell) = true)
    (h_law_at : PySem.W.nsIn K mainGlobals "_law_at" = some (some (.ref a_law_at)))
    (l_law_at : K.lookup a_law_at = some ⟨oc_law_at, od_law_at, .func (PySem.W.fnOf "_law_at" "_law_at" (defArgs s_law_at) (defBody s_law_at) (defScope s_law_at) .none kV_law_at dc_law_at pm_law_at an_law_at cd_law_at ct_law_at), sl_law_at⟩)
    (c_law_at : PySem.W.codeIn K cd_law_at "_law_at" = true)
    (k_law_at : PySem.W.keepIn K (.ref a_law_at) = true)
    (h_law_many : PySem.W.nsIn K mainGlobals "_law_many" = some (some (.ref a_law_many)))
    (l_law_many : K.lookup a_law_many = some ⟨oc_law_many, od_law_many, .func (PySem.W.fnOf "_law_many" "_law_many" (defArgs s_law_many) (defBody s_law_many) (defScope s_law_many) .none kV_law_many dc_law_many pm_law_many an_law_many cd_law_many ct_law_many), sl_law_many⟩)
    (c_law_many : PySem.W.codeIn K cd_law_many "_law_many" = true)
    (k_law_many : PySem.W.keepIn K (.ref a_law_many) = true)
    (h_law_deep : PySem.W.nsIn K mainGlobals "_law_deep" = some (some (.ref a_law_deep)))
    (l_law_deep : K.lookup a_law_deep = some ⟨oc_law_deep, od_law_deep, .func (PySem.W.fnOf "_law_deep" "_law_deep" (defArgs s_law_deep) (defBody s_law_deep) (defScope s_law_deep) .none kV_law_deep dc_law_deep pm_law_deep an_law_deep cd_law_deep ct_law_deep), sl_law_deep⟩)
    (c_law_deep : PySem.W.codeIn K cd_law_deep "_law_deep" = true)
    (k_law_deep : PySem.W.keepIn K (.ref a_law_deep) = true)
    (h_law_tall : PySem.W.nsIn K mainGlobals "_law_tall" = some (some (.ref a_law_tall)))
    (l_law_tall : K.lookup a_law_tall = some ⟨oc_law_tall, od_law_tall, .func (PySem.W.fnOf "_law_tall" "_law_tall" (defArgs s_law_tall) (defBody s_law_tall) (defScope s_law_tall) .none kV_law_tall dc_law_tall pm_law_tall an_law_tall cd_law_tall ct_law_tall), sl_law_tall⟩)
    (c_law_tall : PySem.W.codeIn K cd_law_tall "_law_tall" = true)
    (k_law_tall : PySem.W.keepIn K (.ref a_law_tall) = true)
    (h_law_fixed : PySem.W.nsIn K mainGlobals "_law_fixed" = some (some (.ref a_law_fixed)))
    (l_law_fixed : K.lookup a_law_fixed = some ⟨oc_law_fixed, od_law_fixed, .func (PySem.W.fnOf "_law_fixed" "_law_fixed" (defArgs s_law_fixed) (defBody s_law_fixed) (defScope s_law_fixed) .none kV_law_fixed dc_law_fixed pm_law_fixed an_law_fixed cd_law_fixed ct_law_fixed), sl_law_fixed⟩)
    (c_law_fixed : PySem.W.codeIn K cd_law_fixed "_law_fixed" = true)
    (k_law_fixed : PySem.W.keepIn K (.ref a_law_fixed) = true)
    (h_law : PySem.W.nsIn K mainGlobals "law" = some (some (.ref a_law)))
    (l_law : K.lookup a_law = some ⟨oc_law, od_law, .func (PySem.W.fnOf "law" "law" (defArgs s_law) (defBody s_law) (defScope s_law) .none kV_law dc_law pm_law an_law cd_law ct_law), sl_law⟩)
    (c_law : PySem.W.codeIn K cd_law "law" = true)
    (k_law : PySem.W.keepIn K (.ref a_law) = true)
    (hC_BadText : PySem.W.nsIn K mainGlobals "BadText" = some (some (.ref C_BadText)))
    (kc_BadText : PySem.W.keepIn K (.ref C_BadText) = true)
    (xb_BadText : PySem.W.subIn K (.ref C_BadText) (.type "BaseException") = some true)
    (xt_BadText : PySem.W.typeIn K (.ref C_BadText) = some (.type "type"))
    (xd_BadText : PySem.W.hasDictIn K C_BadText = true)
    (any_ : PySem.W.nsIn K cStatics "thirdparty.any" = some none)
    (zn_super : PySem.W.nsIn K mainGlobals "super" = some none)
    (hi_BadText_init : PySem.W.findIn K (.ref C_BadText) "__init__" = some (some (.ref a_BadText_init)))
    (ti_BadText_init : PySem.W.typeIn K (.ref a_BadText_init) = some (.type "function"))
    (li_BadText_init : K.lookup a_BadText_init = some ⟨oc_BadText_init, od_BadText_init, .func (PySem.W.ksFn "__init__" "BadText.__init__" (defArgs s_BadText_init) (defBody s_BadText_init) (defScope s_BadText_init) .none kV_BadText_init dc_BadText_init pm_BadText_init an_BadText_init (.ref cda_BadText_init) ct_BadText_init cc_BadText_init), sl_BadText_init⟩)
    (ci_BadText_init : PySem.W.codeIn K (.ref cda_BadText_init) "BadText.__init__" = true)
    (di_BadText_init : K.lookup cda_BadText_init = some ⟨ccl_BadText_init, cdd_BadText_init, .fields vs_BadText_init, ccs_BadText_init⟩)
    (vi_BadText_init : vs_BadText_init[2]? = some (.str file tf_BadText_init))
    (xi_BadText_init : K.lookup cc_BadText_init = some ⟨cl_BadText_init, cld_BadText_init, .cell (some (.ref C_BadText)), csl_BadText_init⟩)
    (si_BadText_init : PySem.W.ks_superIn K C_BadText C_BadText "__init__" = some (some (.builtin "ValueError.__init__")))
    (ui_BadText_init : PySem.W.subIn K (.ref C_BadText) (.type "ValueError") = some true)
    (mi_BadText_init : PySem.W.mroIn K C_BadText (.ref C_BadText) = some true)
    (lc_BadText_init : K.lookup C_BadText = some (excClassObj nm_BadText_init q_BadText_init C_BadText N_BadText_init bs_BadText_init bm_BadText_init true sn_BadText_init sub_BadText_init ab_BadText_init col_BadText_init dd_BadText_init k0_BadText_init k1_BadText_init k2_BadText_init k3_BadText_init k5_BadText_init "ValueError.__new__"))
    (rm_BadText_init : PySem.HandSPX.refsVE bm_BadText_init = true)
    (sa_BadText_init : PySem.W.findIn K (.ref C_BadText) "__setattr__" = some (some (.builtin "object.__setattr__")))
    (no_BadText_init : PySem.W.findIn K (.ref C_BadText) "at" = some none)
    (hg_OPERATORS : PySem.W.nsIn K mainGlobals "OPERATORS" = some (some (.ref a_OPERATORS)))
    (lq_OPERATORS : K.lookup a_OPERATORS = some ⟨.type "tuple", od_OPERATORS, .seq #[.str "+" t0_OPERATORS, .str "-" t1_OPERATORS, .str "*" t2_OPERATORS, .str "/" t3_OPERATORS, .str "mod" t4_OPERATORS, .str "<" t5_OPERATORS, .str "=" t6_OPERATORS] n_OPERATORS, sl_OPERATORS⟩)
    (hg_LOOKS : PySem.W.nsIn K mainGlobals "LOOKS" = some (some (.ref a_LOOKS)))
    (lq_LOOKS : K.lookup a_LOOKS = some ⟨.type "tuple", od_LOOKS, .seq #[.str "has" t0_LOOKS, .str "cell" t1_LOOKS] n_LOOKS, sl_LOOKS⟩)
    (hg_DEEPEST_EXPRESSION : PySem.W.nsIn K mainGlobals "DEEPEST_EXPRESSION" = some (some (.int 8 tk_DEEPEST_EXPRESSION)))
    (hg_LONGEST_NAME : PySem.W.nsIn K mainGlobals "LONGEST_NAME" = some (some (.int 12 tk_LONGEST_NAME)))
    (hg_LONGEST_NUMBER : PySem.W.nsIn K mainGlobals "LONGEST_NUMBER" = some (some (.int 5 tk_LONGEST_NUMBER)))
    (hg_GREATEST_NUMBER : PySem.W.nsIn K mainGlobals "GREATEST_NUMBER" = some (some (.int 65535 tk_GREATEST_NUMBER)))
    (hg_LETTERS : PySem.W.nsIn K mainGlobals "LETTERS" = some (some (.str "abcdefghijklmnopqrstuvwxyz" tk_LETTERS)))
    (hg_DIGITS : PySem.W.nsIn K mainGlobals "DIGITS" = some (some (.str "0123456789" tk_DIGITS)))
    (hg_KEY_WORDS : PySem.W.nsIn K mainGlobals "KEY_WORDS" = some (some (.ref a_KEY_WORDS)))
    (lq_KEY_WORDS : K.lookup a_KEY_WORDS = some ⟨.type "tuple", od_KEY_WORDS, .seq #[.str "var" t0_KEY_WORDS, .str "table" t1_KEY_WORDS, .str "lots" t2_KEY_WORDS, .str "proc" t3_KEY_WORDS, .str "local" t4_KEY_WORDS, .str "set" t5_KEY_WORDS, .str "let" t6_KEY_WORDS, .str "draw" t7_KEY_WORDS, .str "put" t8_KEY_WORDS, .str "lot" t9_KEY_WORDS, .str "ask" t10_KEY_WORDS, .str "if" t11_KEY_WORDS, .str "else" t12_KEY_WORDS, .str "end" t13_KEY_WORDS, .str "bad" t14_KEY_WORDS, .str "after" t15_KEY_WORDS, .str "answer" t16_KEY_WORDS, .str "has" t17_KEY_WORDS, .str "cell" t18_KEY_WORDS, .str "mod" t19_KEY_WORDS] n_KEY_WORDS, sl_KEY_WORDS⟩)
    (hg_DEEPEST_STATEMENT : PySem.W.nsIn K mainGlobals "DEEPEST_STATEMENT" = some (some (.int 6 tk_DEEPEST_STATEMENT)))
    (hg_MOST_DRAWN : PySem.W.nsIn K mainGlobals "MOST_DRAWN" = some (some (.int 64 tk_MOST_DRAWN)))
    (hg_MOST_OF_A_KIND : PySem.W.nsIn K mainGlobals "MOST_OF_A_KIND" = some (some (.int 6 tk_MOST_OF_A_KIND)))
    (hg_MOST_LOCALS : PySem.W.nsIn K mainGlobals "MOST_LOCALS" = some (some (.int 6 tk_MOST_LOCALS)))
    (hg_GREATEST_COUNT : PySem.W.nsIn K mainGlobals "GREATEST_COUNT" = some (some (.int 64 tk_GREATEST_COUNT)))
    (hg_FORMS : PySem.W.nsIn K mainGlobals "FORMS" = some (some (.ref a_FORMS)))
    (zn_len : PySem.W.nsIn K mainGlobals "len" = some none)
    (zn_all : PySem.W.nsIn K mainGlobals "all" = some none)
    (zn_int : PySem.W.nsIn K mainGlobals "int" = some none)
    (zn_str : PySem.W.nsIn K mainGlobals "str" = some none)
    (zn_tuple : PySem.W.nsIn K mainGlobals "tuple" = some none)
    (zn_zip : PySem.W.nsIn K mainGlobals "zip" = some none)
    (zn_isinstance : PySem.W.nsIn K mainGlobals "isinstance" = some none)
    (zn_list : PySem.W.nsIn K mainGlobals "list" = some none)
    (zn_range : PySem.W.nsIn K mainGlobals "range" = some none)
    (xga_BadText : PySem.W.findIn K (.ref C_BadText) "__getattribute__" = some (some (.builtin "BaseException.__getattribute__")))
    (xgg_BadText : PySem.W.findIn K (.ref C_BadText) "__getattr__" = some none)
    (sub_tt : PySem.W.subIn K (.ref C_BadText) (.ref C_BadText) = some true)
    (ld_FORMS : K.lookup a_FORMS = some ⟨.type "dict", none, .dict #[⟨h0_FORMS, .str "set" t0_FORMS, .ref v0_FORMS⟩, ⟨h1_FORMS, .str "let" t1_FORMS, .ref v1_FORMS⟩, ⟨h2_FORMS, .str "draw" t2_FORMS, .ref v2_FORMS⟩, ⟨h3_FORMS, .str "put" t3_FORMS, .ref v3_FORMS⟩, ⟨h4_FORMS, .str "lot" t4_FORMS, .ref v4_FORMS⟩, ⟨h5_FORMS, .str "ask" t5_FORMS, .ref v5_FORMS⟩, ⟨h6_FORMS, .str "bad" t6_FORMS, .ref v6_FORMS⟩] n_FORMS, #[]⟩)
    (rm_FORMS : (a_FORMS == sysModules) = false)
    (vi_FORMS0 : h0_FORMS = PyData.keyHash w.params "set")
    (ns_FORMS0 : PySem.W.nsIn K a_FORMS "set" = some (some (.ref v0_FORMS)))
    (lv_FORMS0 : K.lookup v0_FORMS = some ⟨.type "tuple", od0_FORMS, .seq #[.str "variable" t0_0_FORMS, .str "expression" t0_1_FORMS] n0_FORMS, sl0_FORMS⟩)
    (vi_FORMS1 : h1_FORMS = PyData.keyHash w.params "let")
    (ns_FORMS1 : PySem.W.nsIn K a_FORMS "let" = some (some (.ref v1_FORMS)))
    (lv_FORMS1 : K.lookup v1_FORMS = some ⟨.type "tuple", od1_FORMS, .seq #[.str "local" t1_0_FORMS, .str "expression" t1_1_FORMS] n1_FORMS, sl1_FORMS⟩)
    (vi_FORMS2 : h2_FORMS = PyData.keyHash w.params "draw")
    (ns_FORMS2 : PySem.W.nsIn K a_FORMS "draw" = some (some (.ref v2_FORMS)))
    (lv_FORMS2 : K.lookup v2_FORMS = some ⟨.type "tuple", od2_FORMS, .seq #[.str "local" t2_0_FORMS, .str "number" t2_1_FORMS] n2_FORMS, sl2_FORMS⟩)
    (vi_FORMS3 : h3_FORMS = PyData.keyHash w.params "put")
    (ns_FORMS3 : PySem.W.nsIn K a_FORMS "put" = some (some (.ref v3_FORMS)))
    (lv_FORMS3 : K.lookup v3_FORMS = some ⟨.type "tuple", od3_FORMS, .seq #[.str "table" t3_0_FORMS, .str "expression" t3_1_FORMS, .str "expression" t3_2_FORMS] n3_FORMS, sl3_FORMS⟩)
    (vi_FORMS4 : h4_FORMS = PyData.keyHash w.params "lot")
    (ns_FORMS4 : PySem.W.nsIn K a_FORMS "lot" = some (some (.ref v4_FORMS)))
    (lv_FORMS4 : K.lookup v4_FORMS = some ⟨.type "tuple", od4_FORMS, .seq #[.str "local" t4_0_FORMS, .str "lots" t4_1_FORMS, .str "expression" t4_2_FORMS] n4_FORMS, sl4_FORMS⟩)
    (vi_FORMS5 : h5_FORMS = PyData.keyHash w.params "ask")
    (ns_FORMS5 : PySem.W.nsIn K a_FORMS "ask" = some (some (.ref v5_FORMS)))
    (lv_FORMS5 : K.lookup v5_FORMS = some ⟨.type "tuple", od5_FORMS, .seq #[.str "local" t5_0_FORMS, .str "asked" t5_1_FORMS, .str "expression" t5_2_FORMS] n5_FORMS, sl5_FORMS⟩)
    (vi_FORMS6 : h6_FORMS = PyData.keyHash w.params "bad")
    (ns_FORMS6 : PySem.W.nsIn K a_FORMS "bad" = some (some (.ref v6_FORMS)))
    (lv_FORMS6 : K.lookup v6_FORMS = some ⟨.type "tuple", od6_FORMS, .seq #[] n6_FORMS, sl6_FORMS⟩)
    (hP_ : PrF l.prog file) :
    ∃ fd : FuncData, (∀ (s : Shared) (v : Value), BindsTo s fd ⟨[v], []⟩ [("script", v)]) ∧ ∀ base : Heap, K.In base → base.Ns mainGlobals mg → FnOk l.prog w K mg base CX0 60 fa fd ["script"] (spLaw K) := by
  have e := hfa.symm.trans (PySem.W.mg_of X G h_law)
  cases e
  have F_is_name := fun_mk (st := s_is_name) l_is_name c_is_name k_is_name
  have b_is_name := F_is_name.binds (ps := ["word"]) fun _ _ _ _ _ _ us hl => match us, hl with | [_], _ => rfl
  have F_is_number := fun_mk (st := s_is_number) l_is_number c_is_number k_is_number
  have b_is_number := F_is_number.binds (ps := ["word"]) fun _ _ _ _ _ _ us hl => match us, hl with | [_], _ => rfl
  have F_Words_init := fun_mk (st := s_Words_init) l_Words_init c_Words_init k_Words_init
  have b_Words_init := F_Words_init.binds (ps := ["self", "text"]) fun _ _ _ _ _ _ us hl => match us, hl with | [_, _], _ => rfl
  have F_Words_ended := fun_mk (st := s_Words_ended) l_Words_ended c_Words_ended k_Words_ended
  have b_Words_ended := F_Words_ended.binds (ps := ["self"]) fun _ _ _ _ _ _ us hl => match us, hl with | [_], _ => rfl
  have F_Words_ahead := fun_mk (st := s_Words_ahead) l_Words_ahead c_Words_ahead k_Words_ahead
  have b_Words_ahead := F_Words_ahead.binds (ps := ["self"]) fun _ _ _ _ _ _ us hl => match us, hl with | [_], _ => rfl
  have F_Words_refuse := fun_mk (st := s_Words_refuse) l_Words_refuse c_Words_refuse k_Words_refuse
  have b_Words_refuse := F_Words_refuse.binds (ps := ["self"]) fun _ _ _ _ _ _ us hl => match us, hl with | [_], _ => rfl
  have F_Words_take := fun_mk (st := s_Words_take) l_Words_take c_Words_take k_Words_take
  have b_Words_take := F_Words_take.binds (ps := ["self"]) fun _ _ _ _ _ _ us hl => match us, hl with | [_], _ => rfl
  have F_Words_one_of := fun_mk (st := s_Words_one_of) l_Words_one_of c_Words_one_of k_Words_one_of
  have b_Words_one_of := F_Words_one_of.binds (ps := ["self", "choices"]) fun _ _ _ _ _ _ us hl => match us, hl with | [_, _], _ => rfl
  have F_Words_name : FunD K "name" "Words.name" (defArgs s_Words_name) (defBody s_Words_name) (defScope s_Words_name) [.ref te0_Words_name] [] a_Words_name (PySem.W.fnOf "name" "Words.name" (defArgs s_Words_name) (defBody s_Words_name) (defScope s_Words_name) (.ref dT_Words_name) kV_Words_name dc_Words_name pm_Words_name an_Words_name cd_Words_name ct_Words_name) := ⟨⟨_, _, _, _, _, _, _, _, _, _, rfl, l_Words_name, c_Words_name, .inr ⟨List.cons_ne_nil _ _, _, _, _, _, rfl, dl_Words_name, rfl, (.cons rfl .nil)⟩, .inl rfl⟩, k_Words_name⟩
  obtain ⟨ds0_Words_name, dv0_Words_name, db0_Words_name⟩ := F_Words_name.binds1 (ps := ["self", "taken"]) 1 0 (List.cons_ne_nil _ _) rfl fun _ _ _ _ _ _ _ us its hl hi => match us, its, hl, hi with | [_], [_], _, _ => ⟨_, rfl, rfl⟩
  obtain ⟨ds1_Words_name, dv1_Words_name, db1_Words_name⟩ := F_Words_name.binds1 (ps := ["self", "taken"]) 2 1 (List.cons_ne_nil _ _) rfl fun _ _ _ _ _ _ _ us its hl hi => match us, its, hl, hi with | [_, _], [_], _, _ => ⟨_, rfl, rfl⟩
  have b_Words_name : L2.Binds K (PySem.W.fnOf "name" "Words.name" (defArgs s_Words_name) (defBody s_Words_name) (defScope s_Words_name) (.ref dT_Words_name) kV_Words_name dc_Words_name pm_Words_name an_Words_name cd_Words_name ct_Words_name) ["self", "taken"] [] := by cases dv1_Words_name; exact db1_Words_name
  have F_Words_number := fun_mk (st := s_Words_number) l_Words_number c_Words_number k_Words_number
  have b_Words_number := F_Words_number.binds (ps := ["self", "least", "greatest"]) fun _ _ _ _ _ _ us hl => match us, hl with | [_, _, _], _ => rfl
  have F_Words_finish := fun_mk (st := s_Words_finish) l_Words_finish c_Words_finish k_Words_finish
  have b_Words_finish := F_Words_finish.binds (ps := ["self"]) fun _ _ _ _ _ _ us hl => match us, hl with | [_], _ => rfl
  have F_read_expression : FunD K "read_expression" "read_expression" (defArgs s_read_expression) (defBody s_read_expression) (defScope s_read_expression) [.int 1] [] a_read_expression (PySem.W.fnOf "read_expression" "read_expression" (defArgs s_read_expression) (defBody s_read_expression) (defScope s_read_expression) (.ref dT_read_expression) kV_read_expression dc_read_expression pm_read_expression an_read_expression cd_read_expression ct_read_expression) := ⟨⟨_, _, _, _, _, _, _, _, _, _, rfl, l_read_expression, c_read_expression, .inr ⟨List.cons_ne_nil _ _, _, _, _, _, rfl, dl_read_expression, rfl, (.cons ⟨_, rfl⟩ .nil)⟩, .inl rfl⟩, k_read_expression⟩
  obtain ⟨ds0_read_expression, dv0_read_expression, db0_read_expression⟩ := F_read_expression.binds1 (ps := ["words", "meanings", "tables", "depth"]) 3 0 (List.cons_ne_nil _ _) rfl fun _ _ _ _ _ _ _ us its hl hi => match us, its, hl, hi with | [_, _, _], [_], _, _ => ⟨_, rfl, rfl⟩
  obtain ⟨ds1_read_expression, dv1_read_expression, db1_read_expression⟩ := F_read_expression.binds1 (ps := ["words", "meanings", "tables", "depth"]) 4 1 (List.cons_ne_nil _ _) rfl fun _ _ _ _ _ _ _ us its hl hi => match us, its, hl, hi with | [_, _, _, _], [_], _, _ => ⟨_, rfl, rfl⟩
  have b_read_expression : L2.Binds K (PySem.W.fnOf "read_expression" "read_expression" (defArgs s_read_expression) (defBody s_read_expression) (defScope s_read_expression) (.ref dT_read_expression) kV_read_expression dc_read_expression pm_read_expression an_read_expression cd_read_expression ct_read_expression) ["words", "meanings", "tables", "depth"] [] := by cases dv1_read_expression; exact db1_read_expression
  have F_expression_words := fun_mk (st := s_expression_words) l_expression_words c_expression_words k_expression_words
  have b_expression_words := F_expression_words.binds (ps := ["expression"]) fun _ _ _ _ _ _ us hl => match us, hl with | [_], _ => rfl
  have F_StatementReader_init := fun_mk (st := s_StatementReader_init) l_StatementReader_init c_StatementReader_init k_StatementReader_init
  have b_StatementReader_init := F_StatementReader_init.binds (ps := ["self", "words", "names"]) fun _ _ _ _ _ _ us hl => match us, hl with | [_, _, _], _ => rfl
  have F_StatementReader_can_follow := fun_mk (st := s_StatementReader_can_follow) l_StatementReader_can_follow c_StatementReader_can_follow k_StatementReader_can_follow
  have b_StatementReader_can_follow := F_StatementReader_can_follow.binds (ps := ["self", "kind"]) fun _ _ _ _ _ _ us hl => match us, hl with | [_, _], _ => rfl
  have F_StatementReader_can_start := fun_mk (st := s_StatementReader_can_start) l_StatementReader_can_start c_StatementReader_can_start k_StatementReader_can_start
  have b_StatementReader_can_start := F_StatementReader_can_start.binds (ps := ["self", "word", "depth"]) fun _ _ _ _ _ _ us hl => match us, hl with | [_, _, _], _ => rfl
  have F_StatementReader_block : FunD K "block" "StatementReader.block" (defArgs s_StatementReader_block) (defBody s_StatementReader_block) (defScope s_StatementReader_block) [.int 0] [] a_StatementReader_block (PySem.W.fnOf "block" "StatementReader.block" (defArgs s_StatementReader_block) (defBody s_StatementReader_block) (defScope s_StatementReader_block) (.ref dT_StatementReader_block) kV_StatementReader_block dc_StatementReader_block pm_StatementReader_block an_StatementReader_block cd_StatementReader_block ct_StatementReader_block) := ⟨⟨_, _, _, _, _, _, _, _, _, _, rfl, l_StatementReader_block, c_StatementReader_block, .inr ⟨List.cons_ne_nil _ _, _, _, _, _, rfl, dl_StatementReader_block, rfl, (.cons ⟨_, rfl⟩ .nil)⟩, .inl rfl⟩, k_StatementReader_block⟩
  obtain ⟨ds0_StatementReader_block, dv0_StatementReader_block, db0_StatementReader_block⟩ := F_StatementReader_block.binds1 (ps := ["self", "depth"]) 1 0 (List.cons_ne_nil _ _) rfl fun _ _ _ _ _ _ _ us its hl hi => match us, its, hl, hi with | [_], [_], _, _ => ⟨_, rfl, rfl⟩
  obtain ⟨ds1_StatementReader_block, dv1_StatementReader_block, db1_StatementReader_block⟩ := F_StatementReader_block.binds1 (ps := ["self", "depth"]) 2 1 (List.cons_ne_nil _ _) rfl fun _ _ _ _ _ _ _ us its hl hi => match us, its, hl, hi with | [_, _], [_], _, _ => ⟨_, rfl, rfl⟩
  have b_StatementReader_block : L2.Binds K (PySem.W.fnOf "block" "StatementReader.block" (defArgs s_StatementReader_block) (defBody s_StatementReader_block) (defScope s_StatementReader_block) (.ref dT_StatementReader_block) kV_StatementReader_block dc_StatementReader_block pm_StatementReader_block an_StatementReader_block cd_StatementReader_block ct_StatementReader_block) ["self", "depth"] [] := by cases dv1_StatementReader_block; exact db1_StatementReader_block
  have F_StatementReader_statement := fun_mk (st := s_StatementReader_statement) l_StatementReader_statement c_StatementReader_statement k_StatementReader_statement
  have b_StatementReader_statement := F_StatementReader_statement.binds (ps := ["self", "depth"]) fun _ _ _ _ _ _ us hl => match us, hl with | [_, _], _ => rfl
  have F_StatementReader_choice := fun_mk (st := s_StatementReader_choice) l_StatementReader_choice c_StatementReader_choice k_StatementReader_choice
  have b_StatementReader_choice := F_StatementReader_choice.binds (ps := ["self", "depth"]) fun _ _ _ _ _ _ us hl => match us, hl with | [_, _], _ => rfl
  have F_StatementReader_part := fun_mk (st := s_StatementReader_part) l_StatementReader_part c_StatementReader_part k_StatementReader_part
  have b_StatementReader_part := F_StatementReader_part.binds (ps := ["self", "kind"]) fun _ _ _ _ _ _ us hl => match us, hl with | [_, _], _ => rfl
  have F_StatementReader_expression := fun_mk (st := s_StatementReader_expression) l_StatementReader_expression c_StatementReader_expression k_StatementReader_expression
  have b_StatementReader_expression := F_StatementReader_expression.binds (ps := ["self"]) fun _ _ _ _ _ _ us hl => match us, hl with | [_], _ => rfl
  have F_block_words := fun_mk (st := s_block_words) l_block_words c_block_words k_block_words
  have b_block_words := F_block_words.binds (ps := ["block"]) fun _ _ _ _ _ _ us hl => match us, hl with | [_], _ => rfl
  have F_statement_words := fun_mk (st := s_statement_words) l_statement_words c_statement_words k_statement_words
  have b_statement_words := F_statement_words.binds (ps := ["statement"]) fun _ _ _ _ _ _ us hl => match us, hl with | [_], _ => rfl
  have F_choice_words := fun_mk (st := s_choice_words) l_choice_words c_choice_words k_choice_words
  have b_choice_words := F_choice_words.binds (ps := ["statement"]) fun _ _ _ _ _ _ us hl => match us, hl with | [_], _ => rfl
  have F_Game_init := fun_mk (st := s_Game_init) l_Game_init c_Game_init k_Game_init
  have b_Game_init := F_Game_init.binds (ps := ["self", "variables", "tables", "lots", "procs"]) fun _ _ _ _ _ _ us hl => match us, hl with | [_, _, _, _, _], _ => rfl
  have F_Game_eq := fun_mk (st := s_Game_eq) l_Game_eq c_Game_eq k_Game_eq
  have b_Game_eq := F_Game_eq.binds (ps := ["self", "other"]) fun _ _ _ _ _ _ us hl => match us, hl with | [_, _], _ => rfl
  have F_Game_proc := fun_mk (st := s_Game_proc) l_Game_proc c_Game_proc k_Game_proc
  have b_Game_proc := F_Game_proc.binds (ps := ["self", "name"]) fun _ _ _ _ _ _ us hl => match us, hl with | [_, _], _ => rfl
  have F_read_game : FunD K "read_game" "read_game" (defArgs s_read_game) (defBody s_read_game) (defScope s_read_game) [.ref te0_read_game] [] a_read_game (PySem.W.fnOf "read_game" "read_game" (defArgs s_read_game) (defBody s_read_game) (defScope s_read_game) (.ref dT_read_game) kV_read_game dc_read_game pm_read_game an_read_game cd_read_game ct_read_game) := ⟨⟨_, _, _, _, _, _, _, _, _, _, rfl, l_read_game, c_read_game, .inr ⟨List.cons_ne_nil _ _, _, _, _, _, rfl, dl_read_game, rfl, (.cons rfl .nil)⟩, .inl rfl⟩, k_read_game⟩
  obtain ⟨ds0_read_game, dv0_read_game, db0_read_game⟩ := F_read_game.binds1 (ps := ["text", "asked"]) 1 0 (List.cons_ne_nil _ _) rfl fun _ _ _ _ _ _ _ us its hl hi => match us, its, hl, hi with | [_], [_], _, _ => ⟨_, rfl, rfl⟩
  obtain ⟨ds1_read_game, dv1_read_game, db1_read_game⟩ := F_read_game.binds1 (ps := ["text", "asked"]) 2 1 (List.cons_ne_nil _ _) rfl fun _ _ _ _ _ _ _ us its hl hi => match us, its, hl, hi with | [_, _], [_], _, _ => ⟨_, rfl, rfl⟩
  have b_read_game : L2.Binds K (PySem.W.fnOf "read_game" "read_game" (defArgs s_read_game) (defBody s_read_game) (defScope s_read_game) (.ref dT_read_game) kV_read_game dc_read_game pm_read_game an_read_game cd_read_game ct_read_game) ["text", "asked"] [] := by cases dv1_read_game; exact db1_read_game
  have F_first_parts := fun_mk (st := s_first_parts) l_first_parts c_first_parts k_first_parts
  have b_first_parts := F_first_parts.binds (ps := ["rows"]) fun _ _ _ _ _ _ us hl => match us, hl with | [_], _ => rfl
  have F_another := fun_mk (st := s_another) l_another c_another k_another
  have b_another := F_another.binds (ps := ["words", "kind", "found"]) fun _ _ _ _ _ _ us hl => match us, hl with | [_, _, _], _ => rfl
  have F_read_variables := fun_mk (st := s_read_variables) l_read_variables c_read_variables k_read_variables
  have b_read_variables := F_read_variables.binds (ps := ["words"]) fun _ _ _ _ _ _ us hl => match us, hl with | [_], _ => rfl
  have F_read_maps := fun_mk (st := s_read_maps) l_read_maps c_read_maps k_read_maps
  have b_read_maps := F_read_maps.binds (ps := ["words", "kind"]) fun _ _ _ _ _ _ us hl => match us, hl with | [_, _], _ => rfl
  have F_read_procs := fun_mk (st := s_read_procs) l_read_procs c_read_procs k_read_procs
  have b_read_procs := F_read_procs.binds (ps := ["words", "names"]) fun _ _ _ _ _ _ us hl => match us, hl with | [_, _], _ => rfl
  have F_read_proc := fun_mk (st := s_read_proc) l_read_proc c_read_proc k_read_proc
  have b_read_proc := F_read_proc.binds (ps := ["words", "names", "taken"]) fun _ _ _ _ _ _ us hl => match us, hl with | [_, _, _], _ => rfl
  have F_read_locals := fun_mk (st := s_read_locals) l_read_locals c_read_locals k_read_locals
  have b_read_locals := F_read_locals.binds (ps := ["words", "variables"]) fun _ _ _ _ _ _ us hl => match us, hl with | [_, _], _ => rfl
  have F_game_text := fun_mk (st := s_game_text) l_game_text c_game_text k_game_text
  have b_game_text := F_game_text.binds (ps := ["game"]) fun _ _ _ _ _ _ us hl => match us, hl with | [_], _ => rfl
  have F_row_words := fun_mk (st := s_row_words) l_row_words c_row_words k_row_words
  have b_row_words := F_row_words.binds (ps := ["kind", "rows"]) fun _ _ _ _ _ _ us hl => match us, hl with | [_, _], _ => rfl
  have F_proc_words := fun_mk (st := s_proc_words) l_proc_words c_proc_words k_proc_words
  have b_proc_words := F_proc_words.binds (ps := ["proc"]) fun _ _ _ _ _ _ us hl => match us, hl with | [_], _ => rfl
  have F_law_cell := fun_mk (st := s_law_cell) l_law_cell c_law_cell k_law_cell
  have b_law_cell := F_law_cell.binds (ps := ["script", "k"]) fun _ _ _ _ _ _ us hl => match us, hl with | [_, _], _ => rfl
  have F_law_at := fun_mk (st := s_law_at) l_law_at c_law_at k_law_at
  have b_law_at := F_law_at.binds (ps := ["text"]) fun _ _ _ _ _ _ us hl => match us, hl with | [_], _ => rfl
  have F_law_many := fun_mk (st := s_law_many) l_law_many c_law_many k_law_many
  have b_law_many := F_law_many.binds (ps := ["head", "parts", "count", "most", "rest"]) fun _ _ _ _ _ _ us hl => match us, hl with | [_, _, _, _, _], _ => rfl
  have F_law_deep := fun_mk (st := s_law_deep) l_law_deep c_law_deep k_law_deep
  have b_law_deep := F_law_deep.binds (ps := ["parts", "count", "most", "rest", "steps"]) fun _ _ _ _ _ _ us hl => match us, hl with | [_, _, _, _, _], _ => rfl
  have F_law_tall := fun_mk (st := s_law_tall) l_law_tall c_law_tall k_law_tall
  have b_law_tall := F_law_tall.binds (ps := ["count"]) fun _ _ _ _ _ _ us hl => match us, hl with | [_], _ => rfl
  have F_law_fixed := fun_mk (st := s_law_fixed) l_law_fixed c_law_fixed k_law_fixed
  have b_law_fixed := F_law_fixed.binds (ps := []) fun _ _ _ _ _ _ us hl => match us, hl with | [], _ => rfl
  have F_law := fun_mk (st := s_law) l_law c_law k_law
  have b_law := F_law.binds (ps := ["script"]) fun _ _ _ _ _ _ us hl => match us, hl with | [_], _ => rfl
  have hFORMS := mk_forms (w := w) rm_FORMS ld_FORMS vi_FORMS0 ns_FORMS0 (fun H => .inr ⟨_, _, _, lv_FORMS0, rfl, rfl, (by show 2 ≤ sizeLine; decide), (.cons ⟨_, rfl⟩ (.cons ⟨_, rfl⟩ .nil))⟩) vi_FORMS1 ns_FORMS1 (fun H => .inr ⟨_, _, _, lv_FORMS1, rfl, rfl, (by show 2 ≤ sizeLine; decide), (.cons ⟨_, rfl⟩ (.cons ⟨_, rfl⟩ .nil))⟩) vi_FORMS2 ns_FORMS2 (fun H => .inr ⟨_, _, _, lv_FORMS2, rfl, rfl, (by show 2 ≤ sizeLine; decide), (.cons ⟨_, rfl⟩ (.cons ⟨_, rfl⟩ .nil))⟩) vi_FORMS3 ns_FORMS3 (fun H => .inr ⟨_, _, _, lv_FORMS3, rfl, rfl, (by show 3 ≤ sizeLine; decide), (.cons ⟨_, rfl⟩ (.cons ⟨_, rfl⟩ (.cons ⟨_, rfl⟩ .nil)))⟩) vi_FORMS4 ns_FORMS4 (fun H => .inr ⟨_, _, _, lv_FORMS4, rfl, rfl, (by show 3 ≤ sizeLine; decide), (.cons ⟨_, rfl⟩ (.cons ⟨_, rfl⟩ (.cons ⟨_, rfl⟩ .nil)))⟩) vi_FORMS5 ns_FORMS5 (fun H => .inr ⟨_, _, _, lv_FORMS5, rfl, rfl, (by show 3 ≤ sizeLine; decide), (.cons ⟨_, rfl⟩ (.cons ⟨_, rfl⟩ (.cons ⟨_, rfl⟩ .nil)))⟩) vi_FORMS6 ns_FORMS6 (fun H => .inr ⟨_, _, _, lv_FORMS6, rfl, rfl, (by show 0 ≤ sizeLine; decide), .nil⟩)
  refine ⟨PySem.W.fnOf "law" "law" (defArgs s_law) (defBody s_law) (defScope s_law) .none kV_law dc_law pm_law an_law cd_law ct_law, fun s v => .of_eq rfl, fun base _ _ => ?_⟩
  exact ok_law hP_ (mg := mg) (K := K) {
    a_BadText_init := _
    fd_BadText_init := _
    a_is_name := _
    fd_is_name := _
    a_is_number := _
    fd_is_number := _
    a_Words_init := _
    fd_Words_init := _
    a_Words_ended := _
    fd_Words_ended := _
    a_Words_ahead := _
    fd_Words_ahead := _
    a_Words_refuse := _
    fd_Words_refuse := _
    a_Words_take := _
    fd_Words_take := _
    a_Words_one_of := _
    fd_Words_one_of := _
    a_Words_name := _
    fd_Words_name := _
    a_Words_number := _
    fd_Words_number := _
    a_Words_finish := _
    fd_Words_finish := _
    a_read_expression := _
    fd_read_expression := _
    a_expression_words := _
    fd_expression_words := _
    a_StatementReader_init := _
    fd_StatementReader_init := _
    a_StatementReader_can_follow := _
    fd_StatementReader_can_follow := _
    a_StatementReader_can_start := _
    fd_StatementReader_can_start := _
    a_StatementReader_block := _
    fd_StatementReader_block := _
    a_StatementReader_statement := _
    fd_StatementReader_statement := _
    a_StatementReader_choice := _
    fd_StatementReader_choice := _
    a_StatementReader_part := _
    fd_StatementReader_part := _
    a_StatementReader_expression := _
    fd_StatementReader_expression := _
    a_block_words := _
    fd_block_words := _
    a_statement_words := _
    fd_statement_words := _
    a_choice_words := _
    fd_choice_words := _
    a_Game_init := _
    fd_Game_init := _
    a_Game_eq := _
    fd_Game_eq := _
    a_Game_proc := _
    fd_Game_proc := _
    a_read_game := _
    fd_read_game := _
    a_first_parts := _
    fd_first_parts := _
    a_another := _
    fd_another := _
    a_read_variables := _
    fd_read_variables := _
    a_read_maps := _
    fd_read_maps := _
    a_read_procs := _
    fd_read_procs := _
    a_read_proc := _
    fd_read_proc := _
    a_read_locals := _
    fd_read_locals := _
    a_game_text := _
    fd_game_text := _
    a_row_words := _
    fd_row_words := _
    a_proc_words := _
    fd_proc_words := _
    a_law_cell := _
    fd_law_cell := _
    a_law_at := _
    fd_law_at := _
    a_law_many := _
    fd_law_many := _
    a_law_deep := _
    fd_law_deep := _
    a_law_tall := _
    fd_law_tall := _
    a_law_fixed := _
    fd_law_fixed := _
    a_law := _
    fd_law := _
    C_Words := _
    C_StatementReader := _
    C_Game := _
    C_BadText := _
    g_Words := PySem.W.mg_of X G hC_Words
    cl_Words := ⟨pg_Words, hd_Words, po_Words, sa_Words⟩
    sf_Words := sf_Words
    na_Words_words := na_Words_words
    na_Words_at := na_Words_at
    g_StatementReader := PySem.W.mg_of X G hC_StatementReader
    cl_StatementReader := ⟨pg_StatementReader, hd_StatementReader, po_StatementReader, sa_StatementReader⟩
    sf_StatementReader := sf_StatementReader
    na_StatementReader_words := na_StatementReader_words
    na_StatementReader_names := na_StatementReader_names
    na_StatementReader_meanings := na_StatementReader_meanings
    na_StatementReader_starts := na_StatementReader_starts
    g_Game := PySem.W.mg_of X G hC_Game
    cl_Game := ⟨pg_Game, hd_Game, po_Game, sa_Game⟩
    sf_Game := sf_Game
    na_Game_variables := na_Game_variables
    na_Game_tables := na_Game_tables
    na_Game_lots := na_Game_lots
    na_Game_procs := na_Game_procs
    ia_Game := ia_Game
    im_Game := im_Game
    ik_Game := ik_Game
    F_is_name := F_is_name
    b_is_name := b_is_name
    k_is_name := k_is_name
    g_is_name := PySem.W.mg_of X G h_is_name
    F_is_number := F_is_number
    b_is_number := b_is_number
    k_is_number := k_is_number
    g_is_number := PySem.W.mg_of X G h_is_number
    F_Words_init := F_Words_init
    b_Words_init := b_Words_init
    k_Words_init := k_Words_init
    m_Words_init := ⟨h_Words_init, i_Words_init, k_Words_init⟩
    F_Words_ended := F_Words_ended
    b_Words_ended := b_Words_ended
    k_Words_ended := k_Words_ended
    m_Words_ended := ⟨h_Words_ended, i_Words_ended, k_Words_ended⟩
    F_Words_ahead := F_Words_ahead
    b_Words_ahead := b_Words_ahead
    k_Words_ahead := k_Words_ahead
    m_Words_ahead := ⟨h_Words_ahead, i_Words_ahead, k_Words_ahead⟩
    F_Words_refuse := F_Words_refuse
    b_Words_refuse := b_Words_refuse
    k_Words_refuse := k_Words_refuse
    m_Words_refuse := ⟨h_Words_refuse, i_Words_refuse, k_Words_refuse⟩
    F_Words_take := F_Words_take
    b_Words_take := b_Words_take
    k_Words_take := k_Words_take
    m_Words_take := ⟨h_Words_take, i_Words_take, k_Words_take⟩
    F_Words_one_of := F_Words_one_of
    b_Words_one_of := b_Words_one_of
    k_Words_one_of := k_Words_one_of
    m_Words_one_of := ⟨h_Words_one_of, i_Words_one_of, k_Words_one_of⟩
    te0_Words_name := _
    qe0_Words_name := fun H => .inr ⟨_, _, _, lt0_Words_name, rfl, rfl, (by decide), .nil⟩
    F_Words_name := F_Words_name
    ds0_Words_name := ds0_Words_name
    dv0_Words_name := dv0_Words_name
    db0_Words_name := db0_Words_name
    b_Words_name := b_Words_name
    k_Words_name := k_Words_name
    m_Words_name := ⟨h_Words_name, i_Words_name, k_Words_name⟩
    F_Words_number := F_Words_number
    b_Words_number := b_Words_number
    k_Words_number := k_Words_number
    m_Words_number := ⟨h_Words_number, i_Words_number, k_Words_number⟩
    F_Words_finish := F_Words_finish
    b_Words_finish := b_Words_finish
    k_Words_finish := k_Words_finish
    m_Words_finish := ⟨h_Words_finish, i_Words_finish, k_Words_finish⟩
    F_read_expression := F_read_expression
    ds0_read_expression := ds0_read_expression
    dv0_read_expression := dv0_read_expression
    db0_read_expression := db0_read_expression
    b_read_expression := b_read_expression
    k_read_expression := k_read_expression
    g_read_expression := PySem.W.mg_of X G h_read_expression
    F_expression_words := F_expression_words
    b_expression_words := b_expression_words
    k_expression_words := k_expression_words
    g_expression_words := PySem.W.mg_of X G h_expression_words
    F_StatementReader_init := F_StatementReader_init
    b_StatementReader_init := b_StatementReader_init
    k_StatementReader_init := k_StatementReader_init
    m_StatementReader_init := ⟨h_StatementReader_init, i_StatementReader_init, k_StatementReader_init⟩
    F_StatementReader_can_follow := F_StatementReader_can_follow
    b_StatementReader_can_follow := b_StatementReader_can_follow
    k_StatementReader_can_follow := k_StatementReader_can_follow
    m_StatementReader_can_follow := ⟨h_StatementReader_can_follow, i_StatementReader_can_follow, k_StatementReader_can_follow⟩
    F_StatementReader_can_start := F_StatementReader_can_start
    b_StatementReader_can_start := b_StatementReader_can_start
    k_StatementReader_can_start := k_StatementReader_can_start
    m_StatementReader_can_start := ⟨h_StatementReader_can_start, i_StatementReader_can_start, k_StatementReader_can_start⟩
    F_StatementReader_block := F_StatementReader_block
    ds0_StatementReader_block := ds0_StatementReader_block
    dv0_StatementReader_block := dv0_StatementReader_block
    db0_StatementReader_block := db0_StatementReader_block
    b_StatementReader_block := b_StatementReader_block
    k_StatementReader_block := k_StatementReader_block
    m_StatementReader_block := ⟨h_StatementReader_block, i_StatementReader_block, k_StatementReader_block⟩
    F_StatementReader_statement := F_StatementReader_statement
    b_StatementReader_statement := b_StatementReader_statement
    k_StatementReader_statement := k_StatementReader_statement
    m_StatementReader_statement := ⟨h_StatementReader_statement, i_StatementReader_statement, k_StatementReader_statement⟩
    F_StatementReader_choice := F_StatementReader_choice
    b_StatementReader_choice := b_StatementReader_choice
    k_StatementReader_choice := k_StatementReader_choice
    m_StatementReader_choice := ⟨h_StatementReader_choice, i_StatementReader_choice, k_StatementReader_choice⟩
    F_StatementReader_part := F_StatementReader_part
    b_StatementReader_part := b_StatementReader_part
    k_StatementReader_part := k_StatementReader_part
    m_StatementReader_part := ⟨h_StatementReader_part, i_StatementReader_part, k_StatementReader_part⟩
    F_StatementReader_expression := F_StatementReader_expression
    b_StatementReader_expression := b_StatementReader_expression
    k_StatementReader_expression := k_StatementReader_expression
    m_StatementReader_expression := ⟨h_StatementReader_expression, i_StatementReader_expression, k_StatementReader_expression⟩
    F_block_words := F_block_words
    b_block_words := b_block_words
    k_block_words := k_block_words
    g_block_words := PySem.W.mg_of X G h_block_words
    F_statement_words := F_statement_words
    b_statement_words := b_statement_words
    k_statement_words := k_statement_words
    g_statement_words := PySem.W.mg_of X G h_statement_words
    F_choice_words := F_choice_words
    b_choice_words := b_choice_words
    k_choice_words := k_choice_words
    g_choice_words := PySem.W.mg_of X G h_choice_words
    F_Game_init := F_Game_init
    b_Game_init := b_Game_init
    k_Game_init := k_Game_init
    m_Game_init := ⟨h_Game_init, i_Game_init, k_Game_init⟩
    F_Game_eq := F_Game_eq
    b_Game_eq := b_Game_eq
    k_Game_eq := k_Game_eq
    m_Game_eq := ⟨h_Game_eq, i_Game_eq, k_Game_eq⟩
    F_Game_proc := F_Game_proc
    b_Game_proc := b_Game_proc
    k_Game_proc := k_Game_proc
    m_Game_proc := ⟨h_Game_proc, i_Game_proc, k_Game_proc⟩
    te0_read_game := _
    qe0_read_game := fun H => .inr ⟨_, _, _, lt0_read_game, rfl, rfl, (by decide), .nil⟩
    F_read_game := F_read_game
    ds0_read_game := ds0_read_game
    dv0_read_game := dv0_read_game
    db0_read_game := db0_read_game
    b_read_game := b_read_game
    k_read_game := k_read_game
    g_read_game := PySem.W.mg_of X G h_read_game
    F_first_parts := F_first_parts
    b_first_parts := b_first_parts
    k_first_parts := k_first_parts
    g_first_parts := PySem.W.mg_of X G h_first_parts
    F_another := F_another
    b_another := b_another
    k_another := k_another
    g_another := PySem.W.mg_of X G h_another
    F_read_variables := F_read_variables
    b_read_variables := b_read_variables
    k_read_variables := k_read_variables
    g_read_variables := PySem.W.mg_of X G h_read_variables
    F_read_maps := F_read_maps
    b_read_maps := b_read_maps
    k_read_maps := k_read_maps
    g_read_maps := PySem.W.mg_of X G h_read_maps
    F_read_procs := F_read_procs
    b_read_procs := b_read_procs
    k_read_procs := k_read_procs
    g_read_procs := PySem.W.mg_of X G h_read_procs
    F_read_proc := F_read_proc
    b_read_proc := b_read_proc
    k_read_proc := k_read_proc
    g_read_proc := PySem.W.mg_of X G h_read_proc
    F_read_locals := F_read_locals
    b_read_locals := b_read_locals
    k_read_locals := k_read_locals
    g_read_locals := PySem.W.mg_of X G h_read_locals
    F_game_text := F_game_text
    b_game_text := b_game_text
    k_game_text := k_game_text
    g_game_text := PySem.W.mg_of X G h_game_text
    F_row_words := F_row_words
    b_row_words := b_row_words
    k_row_words := k_row_words
    g_row_words := PySem.W.mg_of X G h_row_words
    F_proc_words := F_proc_words
    b_proc_words := b_proc_words
    k_proc_words := k_proc_words
    g_proc_words := PySem.W.mg_of X G h_proc_words
    F_law_cell := F_law_cell
    b_law_cell := b_law_cell
    k_law_cell := k_law_cell
    g_law_cell := PySem.W.mg_of X G h_law_cell
    F_law_at := F_law_at
    b_law_at := b_law_at
    k_law_at := k_law_at
    g_law_at := PySem.W.mg_of X G h_law_at
    F_law_many := F_law_many
    b_law_many := b_law_many
    k_law_many := k_law_many
    g_law_many := PySem.W.mg_of X G h_law_many
    F_law_deep := F_law_deep
    b_law_deep := b_law_deep
    k_law_deep := k_law_deep
    g_law_deep := PySem.W.mg_of X G h_law_deep
    F_law_tall := F_law_tall
    b_law_tall := b_law_tall
    k_law_tall := k_law_tall
    g_law_tall := PySem.W.mg_of X G h_law_tall
    F_law_fixed := F_law_fixed
    b_law_fixed := b_law_fixed
    k_law_fixed := k_law_fixed
    g_law_fixed := PySem.W.mg_of X G h_law_fixed
    F_law := F_law
    b_law := b_law
    k_law := k_law
    g_law := PySem.W.mg_of X G h_law
    mk_Words := ⟨mk_Words, h_Words_init, i_Words_init, kc_Words⟩
    mk_StatementReader := ⟨mk_StatementReader, h_StatementReader_init, i_StatementReader_init, kc_StatementReader⟩
    mk_Game := ⟨mk_Game, h_Game_init, i_Game_init, kc_Game⟩
    g_BadText := PySem.W.mg_of X G hC_BadText
    kc_BadText := kc_BadText
    xb_BadText := xb_BadText
    xt_BadText := xt_BadText
    xd_BadText := xd_BadText
    z_super := PySem.W.mg_none_of X G zn_super
    E_BadText := { ex := ⟨_, _, _, _, _, _, _, _, _, _, _, _, _, _, _, _, _, _, _, rfl, li_BadText_init, ci_BadText_init, di_BadText_init, vi_BadText_init, xi_BadText_init⟩, any := any_, sup := si_BadText_init, subV := ui_BadText_init, mro := mi_BadText_init, T := ⟨⟨_, _, _, _, _, _, _, _, _, _, _, _, _, _, _, lc_BadText_init, rm_BadText_init⟩, sa_BadText_init, xb_BadText, xt_BadText, kc_BadText⟩, iC := hi_BadText_init, tI := ti_BadText_init, no := no_BadText_init, z := PySem.W.mg_none_of X G zn_super }
    b_BadText_init := (.all fun us hl => match us, hl with | [_, _], _ => rfl)
    a_OPERATORS := _
    g_OPERATORS := PySem.W.mg_of X G hg_OPERATORS
    q_OPERATORS := fun H => .inr ⟨_, _, _, lq_OPERATORS, rfl, rfl, (by show 7 ≤ sizeLine; decide), (.cons ⟨_, rfl⟩ (.cons ⟨_, rfl⟩ (.cons ⟨_, rfl⟩ (.cons ⟨_, rfl⟩ (.cons ⟨_, rfl⟩ (.cons ⟨_, rfl⟩ (.cons ⟨_, rfl⟩ .nil)))))))⟩
    a_LOOKS := _
    g_LOOKS := PySem.W.mg_of X G hg_LOOKS
    q_LOOKS := fun H => .inr ⟨_, _, _, lq_LOOKS, rfl, rfl, (by show 2 ≤ sizeLine; decide), (.cons ⟨_, rfl⟩ (.cons ⟨_, rfl⟩ .nil))⟩
    g_DEEPEST_EXPRESSION := ⟨_, PySem.W.mg_of X G hg_DEEPEST_EXPRESSION⟩
    g_LONGEST_NAME := ⟨_, PySem.W.mg_of X G hg_LONGEST_NAME⟩
    g_LONGEST_NUMBER := ⟨_, PySem.W.mg_of X G hg_LONGEST_NUMBER⟩
    g_GREATEST_NUMBER := ⟨_, PySem.W.mg_of X G hg_GREATEST_NUMBER⟩
    g_LETTERS := ⟨_, PySem.W.mg_of X G hg_LETTERS⟩
    g_DIGITS := ⟨_, PySem.W.mg_of X G hg_DIGITS⟩
    a_KEY_WORDS := _
    g_KEY_WORDS := PySem.W.mg_of X G hg_KEY_WORDS
    q_KEY_WORDS := fun H => .inr ⟨_, _, _, lq_KEY_WORDS, rfl, rfl, (by show 20 ≤ sizeLine; decide), (.cons ⟨_, rfl⟩ (.cons ⟨_, rfl⟩ (.cons ⟨_, rfl⟩ (.cons ⟨_, rfl⟩ (.cons ⟨_, rfl⟩ (.cons ⟨_, rfl⟩ (.cons ⟨_, rfl⟩ (.cons ⟨_, rfl⟩ (.cons ⟨_, rfl⟩ (.cons ⟨_, rfl⟩ (.cons ⟨_, rfl⟩ (.cons ⟨_, rfl⟩ (.cons ⟨_, rfl⟩ (.cons ⟨_, rfl⟩ (.cons ⟨_, rfl⟩ (.cons ⟨_, rfl⟩ (.cons ⟨_, rfl⟩ (.cons ⟨_, rfl⟩ (.cons ⟨_, rfl⟩ (.cons ⟨_, rfl⟩ .nil))))))))))))))))))))⟩
    g_DEEPEST_STATEMENT := ⟨_, PySem.W.mg_of X G hg_DEEPEST_STATEMENT⟩
    g_MOST_DRAWN := ⟨_, PySem.W.mg_of X G hg_MOST_DRAWN⟩
    g_MOST_OF_A_KIND := ⟨_, PySem.W.mg_of X G hg_MOST_OF_A_KIND⟩
    g_MOST_LOCALS := ⟨_, PySem.W.mg_of X G hg_MOST_LOCALS⟩
    g_GREATEST_COUNT := ⟨_, PySem.W.mg_of X G hg_GREATEST_COUNT⟩
    a_FORMS := _
    g_FORMS := PySem.W.mg_of X G hg_FORMS
    z_len := PySem.W.mg_none_of X G zn_len
    z_all := PySem.W.mg_none_of X G zn_all
    z_int := PySem.W.mg_none_of X G zn_int
    z_str := PySem.W.mg_none_of X G zn_str
    z_tuple := PySem.W.mg_none_of X G zn_tuple
    z_zip := PySem.W.mg_none_of X G zn_zip
    z_isinstance := PySem.W.mg_none_of X G zn_isinstance
    z_list := PySem.W.mg_none_of X G zn_list
    z_range := PySem.W.mg_none_of X G zn_range
    xga_BadText := xga_BadText
    xgg_BadText := xgg_BadText
    sub_tt := sub_tt } hFORMS
theorem walk {l : PySem.W.OpenLaw} {q : Program} {loose : List Str} {XP : (Str → Option Value) → Heap → Prop} {YP : World → Heap → Prop} {d : DefRec} {K : Params → PySem.W.Frag} (hn : l.most = some 63) (hdf : d.params.defaults = [])
    (hY : ∀ (w : World) (h : Heap), YP w h → (K w.params).In h)
    (F : ∀ (w : World) (mg : Str → Option Value) (fa : Addr) (h : Heap), (K w.params).In h → h.Ns mainGlobals mg → mg d.name = some (.ref fa) →
      ∃ fd : FuncData, (∀ (s : Shared) (u : Value), BindsTo s fd ⟨[u], []⟩ [("script", u)]) ∧ ∀ base : Heap, (K w.params).In base → base.Ns mainGlobals mg → FnOk l.prog w (K w.params) mg base CX0 60 fa fd ["script"] (spLaw (K w.params))) :
    PySem.W.WalkO q loose XP YP l.row.toRowW d [] (fun f vs => PySem.call f vs) :=
  L2.walk_of (n := 63) (k := 60) (x := "script") (CX := fun _ => CX0) (sp := fun w => spLaw (K w.params)) hn (by decide) hdf ⟨rfl, by decide, by decide⟩ hY F (fun _ _ a ns hl _ hS => ⟨a, ns, rfl, hS, hl, fun _ => rfl⟩) fun _ _ _ _ _ z => z
end Toy
set_option Elab.async false
open PySem PySem.W PyProof.Rows
set_option maxRecDepth 100000 in
set_option maxHeartbeats 0 in
theorem PySem.Challenge.cw_tellsnone_k03_bounds_of_a_text_holds : PySem.Challenge.rw_tellsnone_k03_bounds_of_a_text.Holds := by
  w_on; o_law; k_head; (case hw => w_witness2)
  k_fill
  refine Toy.walk (l := PySem.Challenge.rw_tellsnone_k03_bounds_of_a_text) rfl rfl (fun w h Y => PySem.W.kIn_of Y) ?F
  case F =>
    intro w mg fa h KX G hmg
    refine' Toy.all_mk KX G hmg ?hC_Words ?pg_Words ?hd_Words ?po_Words ?sa_Words ?mk_Words ?kc_Words ?sf_Words ?na_Words_words ?na_Words_at ?hC_StatementReader ?pg_StatementReader ?hd_StatementReader ?po_StatementReader ?sa_StatementReader ?mk_StatementReader ?kc_StatementReader ?sf_StatementReader ?na_StatementReader_words ?na_StatementReader_names ?na_StatementReader_meanings ?na_StatementReader_starts ?hC_Game ?pg_Game ?hd_Game ?po_Game ?sa_Game ?mk_Game ?kc_Game ?sf_Game ?na_Game_variables ?na_Game_tables ?na_Game_lots ?na_Game_procs ?ia_Game ?im_Game ?ik_Game ?h_is_name ?l_is_name ?c_is_name ?k_is_name ?h_is_number ?l_is_number ?c_is_number ?k_is_number ?h_Words_init ?i_Words_init ?l_Words_init ?c_Words_init ?k_Words_init ?h_Words_ended ?i_Words_ended ?l_Words_ended ?c_Words_ended ?k_Words_ended ?h_Words_ahead ?i_Words_ahead ?l_Words_ahead ?c_Words_ahead ?k_Words_ahead ?h_Words_refuse ?i_Words_refuse ?l_Words_refuse ?c_Words_refuse ?k_Words_refuse ?h_Words_take ?i_Words_take ?l_Words_take ?c_Words_take ?k_Words_take ?h_Words_one_of ?i_Words_one_of ?l_Words_one_of ?c_Words_one_of ?k_Words_one_of ?h_Words_name ?i_Words_name ?l_Words_name ?dl_Words_name ?lt0_Words_name ?c_Words_name ?k_Words_name ?h_Words_number ?i_Words_number ?l_Words_number ?c_Words_number ?k_Words_number ?h_Words_finish ?i_Words_finish ?l_Words_finish ?c_Words_finish ?k_Words_finish ?h_read_expression ?l_read_expression ?dl_read_expression ?c_read_expression ?k_read_expression ?h_expression_words ?l_expression_words ?c_expression_words ?k_expression_words ?h_StatementReader_init ?i_StatementReader_init ?l_StatementReader_init ?c_StatementReader_init ?k_StatementReader_init ?h_StatementReader_can_follow ?i_StatementReader_can_follow ?l_StatementReader_can_follow ?c_StatementReader_can_follow ?k_StatementReader_can_follow ?h_StatementReader_can_start ?i_StatementReader_can_start ?l_StatementReader_can_start ?c_StatementReader_can_start ?k_StatementReader_can_start ?h_StatementReader_block ?i_StatementReader_block ?l_StatementReader_block ?dl_StatementReader_block ?c_StatementReader_block ?k_StatementReader_block ?h_StatementReader_statement ?i_StatementReader_statement ?l_StatementReader_statement ?c_StatementReader_statement ?k_StatementReader_statement ?h_StatementReader_choice ?i_StatementReader_choice ?l_StatementReader_choice ?c_StatementReader_choice ?k_StatementReader_choice ?h_StatementReader_part ?i_StatementReader_part ?l_StatementReader_part ?c_StatementReader_part ?k_StatementReader_part ?h_StatementReader_expression ?i_StatementReader_expression ?l_StatementReader_expression ?c_StatementReader_expression ?k_StatementReader_expression ?h_block_words ?l_block_words ?c_block_words ?k_block_words ?h_statement_words ?l_statement_words ?c_statement_words ?k_statement_words ?h_choice_words ?l_choice_words ?c_choice_words ?k_choice_words ?h_Game_init ?i_Game_init ?l_Game_init ?c_Game_init ?k_Game_init ?h_Game_eq ?i_Game_eq ?l_Game_eq ?c_Game_eq ?k_Game_eq ?h_Game_proc ?i_Game_proc ?l_Game_proc ?c_Game_proc ?k_Game_proc ?h_read_game ?l_read_game ?dl_read_game ?lt0_read_game ?c_read_game ?k_read_game ?h_first_parts ?l_first_parts ?c_first_parts ?k_first_parts ?h_another ?l_another ?c_another ?k_another ?h_read_variables ?l_read_variables ?c_read_variables ?k_read_variables ?h_read_maps ?l_read_maps ?c_read_maps ?k_read_maps ?h_read_procs ?l_read_procs ?c_read_procs ?k_read_procs ?h_read_proc ?l_read_proc ?c_read_proc ?k_read_proc ?h_read_locals ?l_read_locals ?c_read_locals ?k_read_locals ?h_game_text ?l_game_text ?c_game_text ?k_game_text ?h_row_words ?l_row_words ?c_row_words ?k_row_words ?h_proc_words ?l_proc_words ?c_proc_words ?k_proc_words ?h_law_cell ?l_law_cell ?c_law_cell ?k_law_cell ?h_law_at ?l_law_at ?c_law_at ?k_law_at ?h_law_many ?l_law_many ?c_law_many ?k_law_many ?h_law_deep ?l_law_deep ?c_law_deep ?k_law_deep ?h_law_tall ?l_law_tall ?c_law_tall ?k_law_tall ?h_law_fixed ?l_law_fixed ?c_law_fixed ?k_law_fixed ?h_law ?l_law ?c_law ?k_law ?hC_BadText ?kc_BadText ?xb_BadText ?xt_BadText ?xd_BadText ?any_ ?zn_super ?hi_BadText_init ?ti_BadText_init ?li_BadText_init ?ci_BadText_init ?di_BadText_init ?vi_BadText_init ?xi_BadText_init ?si_BadText_init ?ui_BadText_init ?mi_BadText_init ?lc_BadText_init ?rm_BadText_init ?sa_BadText_init ?no_BadText_init ?hg_OPERATORS ?lq_OPERATORS ?hg_LOOKS ?lq_LOOKS ?hg_DEEPEST_EXPRESSION ?hg_LONGEST_NAME ?hg_LONGEST_NUMBER ?hg_GREATEST_NUMBER ?hg_LETTERS ?hg_DIGITS ?hg_KEY_WORDS ?lq_KEY_WORDS ?hg_DEEPEST_STATEMENT ?hg_MOST_DRAWN ?hg_MOST_OF_A_KIND ?hg_MOST_LOCALS ?hg_GREATEST_COUNT ?hg_FORMS ?zn_len ?zn_all ?zn_int ?zn_str ?zn_tuple ?zn_zip ?zn_isinstance ?zn_list ?zn_range ?xga_BadText ?xgg_BadText ?sub_tt ?ld_FORMS ?rm_FORMS ?vi_FORMS0 ?ns_FORMS0 ?lv_FORMS0 ?vi_FORMS1 ?ns_FORMS1 ?lv_FORMS1 ?vi_FORMS2 ?ns_FORMS2 ?lv_FORMS2 ?vi_FORMS3 ?ns_FORMS3 ?lv_FORMS3 ?vi_FORMS4 ?ns_FORMS4 ?lv_FORMS4 ?vi_FORMS5 ?ns_FORMS5 ?lv_FORMS5 ?vi_FORMS6 ?ns_FORMS6 ?lv_FORMS6 ?hP_
    (case hC_Words => first | k_is | k_exc | kit_is)
    (case pg_Words => first | k_is | k_exc | kit_is)
    (case hd_Words => first | k_is | k_exc | kit_is)
    (case po_Words => first | k_is | k_exc | kit_is)
    (case sa_Words => first | k_is | k_exc | kit_is)
    (case mk_Words => first | k_is | k_exc | kit_is)
    (case kc_Words => first | k_is | k_exc | kit_is)
    (case sf_Words => first | k_is | k_exc | kit_is)
    (case na_Words_words => first | k_is | k_exc | kit_is)
    (case na_Words_at => first | k_is | k_exc | kit_is)
    (case hC_StatementReader => first | k_is | k_exc | kit_is)
    (case pg_StatementReader => first | k_is | k_exc | kit_is)
    (case hd_StatementReader => first | k_is | k_exc | kit_is)
    (case po_StatementReader => first | k_is | k_exc | kit_is)
    (case sa_StatementReader => first | k_is | k_exc | kit_is)
    (case mk_StatementReader => first | k_is | k_exc | kit_is)
    (case kc_StatementReader => first | k_is | k_exc | kit_is)
    (case sf_StatementReader => first | k_is | k_exc | kit_is)
    (case na_StatementReader_words => first | k_is | k_exc | kit_is)
    (case na_StatementReader_names => first | k_is | k_exc | kit_is)
    (case na_StatementReader_meanings => first | k_is | k_exc | kit_is)
    (case na_StatementReader_starts => first | k_is | k_exc | kit_is)
    (case hC_Game => first | k_is | k_exc | kit_is)
    (case pg_Game => first | k_is | k_exc | kit_is)
    (case hd_Game => first | k_is | k_exc | kit_is)
    (case po_Game => first | k_is | k_exc | kit_is)
    (case sa_Game => first | k_is | k_exc | kit_is)
    (case mk_Game => first | k_is | k_exc | kit_is)
    (case kc_Game => first | k_is | k_exc | kit_is)
    (case sf_Game => first | k_is | k_exc | kit_is)
    (case na_Game_variables => first | k_is | k_exc | kit_is)
    (case na_Game_tables => first | k_is | k_exc | kit_is)
    (case na_Game_lots => first | k_is | k_exc | kit_is)
    (case na_Game_procs => first | k_is | k_exc | kit_is)
    (case ia_Game => first | k_is | k_exc | kit_is)
    (case im_Game => first | k_is | k_exc | kit_is)
    (case ik_Game => first | k_is | k_exc | kit_is)
    (case h_is_name => first | k_is | k_exc | kit_is)
    (case l_is_name => first | k_is | k_exc | kit_is)
    (case c_is_name => first | k_is | k_exc | kit_is)
    (case k_is_name => first | k_is | k_exc | kit_is)
    (case h_is_number => first | k_is | k_exc | kit_is)
    (case l_is_number => first | k_is | k_exc | kit_is)
    (case c_is_number => first | k_is | k_exc | kit_is)
    (case k_is_number => first | k_is | k_exc | kit_is)
    (case h_Words_init => first | k_is | k_exc | kit_is)
    (case i_Words_init => first | k_is | k_exc | kit_is)
    (case l_Words_init => first | k_is | k_exc | kit_is)
    (case c_Words_init => first | k_is | k_exc | kit_is)
    (case k_Words_init => first | k_is | k_exc | kit_is)
    (case h_Words_ended => first | k_is | k_exc | kit_is)
    (case i_Words_ended => first | k_is | k_exc | kit_is)
    (case l_Words_ended => first | k_is | k_exc | kit_is)
    (case c_Words_ended => first | k_is | k_exc | kit_is)
    (case k_Words_ended => first | k_is | k_exc | kit_is)
    (case h_Words_ahead => first | k_is | k_exc | kit_is)
    (case i_Words_ahead => first | k_is | k_exc | kit_is)
    (case l_Words_ahead => first | k_is | k_exc | kit_is)
    (case c_Words_ahead => first | k_is | k_exc | kit_is)
    (case k_Words_ahead => first | k_is | k_exc | kit_is)
    (case h_Words_refuse => first | k_is | k_exc | kit_is)
    (case i_Words_refuse => first | k_is | k_exc | kit_is)
    (case l_Words_refuse => first | k_is | k_exc | kit_is)
    (case c_Words_refuse => first | k_is | k_exc | kit_is)
    (case k_Words_refuse => first | k_is | k_exc | kit_is)
    (case h_Words_take => first | k_is | k_exc | kit_is)
    (case i_Words_take => first | k_is | k_exc | kit_is)
    (case l_Words_take => first | k_is | k_exc | kit_is)
    (case c_Words_take => first | k_is | k_exc | kit_is)
    (case k_Words_take => first | k_is | k_exc | kit_is)
    (case h_Words_one_of => first | k_is | k_exc | kit_is)
    (case i_Words_one_of => first | k_is | k_exc | kit_is)
    (case l_Words_one_of => first | k_is | k_exc | kit_is)
    (case c_Words_one_of => first | k_is | k_exc | kit_is)
    (case k_Words_one_of => first | k_is | k_exc | kit_is)
    (case h_Words_name => first | k_is | k_exc | kit_is)
    (case i_Words_name => first | k_is | k_exc | kit_is)
    (case l_Words_name => first | k_is | k_exc | kit_is)
    (case dl_Words_name => first | k_is | k_exc | kit_is)
    (case lt0_Words_name => first | k_is | k_exc | kit_is)
    (case c_Words_name => first | k_is | k_exc | kit_is)
    (case k_Words_name => first | k_is | k_exc | kit_is)
    (case h_Words_number => first | k_is | k_exc | kit_is)
    (case i_Words_number => first | k_is | k_exc | kit_is)
    (case l_Words_number => first | k_is | k_exc | kit_is)
    (case c_Words_number => first | k_is | k_exc | kit_is)
    (case k_Words_number => first | k_is | k_exc | kit_is)
    (case h_Words_finish => first | k_is | k_exc | kit_is)
    (case i_Words_finish => first | k_is | k_exc | kit_is)
    (case l_Words_finish => first | k_is | k_exc | kit_is)
    (case c_Words_finish => first | k_is | k_exc | kit_is)
    (case k_Words_finish => first | k_is | k_exc | kit_is)
    (case h_read_expression => first | k_is | k_exc | kit_is)
    (case l_read_expression => first | k_is | k_exc | kit_is)
    (case dl_read_expression => first | k_is | k_exc | kit_is)
    (case c_read_expression => first | k_is | k_exc | kit_is)
    (case k_read_expression => first | k_is | k_exc | kit_is)
    (case h_expression_words => first | k_is | k_exc | kit_is)
    (case l_expression_words => first | k_is | k_exc | kit_is)
    (case c_expression_words => first | k_is | k_exc | kit_is)
    (case k_expression_words => first | k_is | k_exc | kit_is)
    (case h_StatementReader_init => first | k_is | k_exc | kit_is)
    (case i_StatementReader_init => first | k_is | k_exc | kit_is)
    (case l_StatementReader_init => first | k_is | k_exc | kit_is)
    (case c_StatementReader_init => first | k_is | k_exc | kit_is)
    (case k_StatementReader_init => first | k_is | k_exc | kit_is)
    (case h_StatementReader_can_follow => first | k_is | k_exc | kit_is)
    (case i_StatementReader_can_follow => first | k_is | k_exc | kit_is)
    (case l_StatementReader_can_follow => first | k_is | k_exc | kit_is)
    (case c_StatementReader_can_follow => first | k_is | k_exc | kit_is)
    (case k_StatementReader_can_follow => first | k_is | k_exc | kit_is)
    (case h_StatementReader_can_start => first | k_is | k_exc | kit_is)
    (case i_StatementReader_can_start => first | k_is | k_exc | kit_is)
    (case l_StatementReader_can_start => first | k_is | k_exc | kit_is)
    (case c_StatementReader_can_start => first | k_is | k_exc | kit_is)
    (case k_StatementReader_can_start => first | k_is | k_exc | kit_is)
    (case h_StatementReader_block => first | k_is | k_exc | kit_is)
    (case i_StatementReader_block => first | k_is | k_exc | kit_is)
    (case l_StatementReader_block => first | k_is | k_exc | kit_is)
    (case dl_StatementReader_block => first | k_is | k_exc | kit_is)
    (case c_StatementReader_block => first | k_is | k_exc | kit_is)
    (case k_StatementReader_block => first | k_is | k_exc | kit_is)
    (case h_StatementReader_statement => first | k_is | k_exc | kit_is)
    (case i_StatementReader_statement => first | k_is | k_exc | kit_is)
    (case l_StatementReader_statement => first | k_is | k_exc | kit_is)
    (case c_StatementReader_statement => first | k_is | k_exc | kit_is)
    (case k_StatementReader_statement => first | k_is | k_exc | kit_is)
    (case h_StatementReader_choice => first | k_is | k_exc | kit_is)
    (case i_StatementReader_choice => first | k_is | k_exc | kit_is)
    (case l_StatementReader_choice => first | k_is | k_exc | kit_is)
    (case c_StatementReader_choice => first | k_is | k_exc | kit_is)
    (case k_StatementReader_choice => first | k_is | k_exc | kit_is)
    (case h_StatementReader_part => first | k_is | k_exc | kit_is)
    (case i_StatementReader_part => first | k_is | k_exc | kit_is)
    (case l_StatementReader_part => first | k_is | k_exc | kit_is)
    (case c_StatementReader_part => first | k_is | k_exc | kit_is)
    (case k_StatementReader_part => first | k_is | k_exc | kit_is)
    (case h_StatementReader_expression => first | k_is | k_exc | kit_is)
    (case i_StatementReader_expression => first | k_is | k_exc | kit_is)
    (case l_StatementReader_expression => first | k_is | k_exc | kit_is)
    (case c_StatementReader_expression => first | k_is | k_exc | kit_is)
    (case k_StatementReader_expression => first | k_is | k_exc | kit_is)
    (case h_block_words => first | k_is | k_exc | kit_is)
    (case l_block_words => first | k_is | k_exc | kit_is)
    (case c_block_words => first | k_is | k_exc | kit_is)
    (case k_block_words => first | k_is | k_exc | kit_is)
    (case h_statement_words => first | k_is | k_exc | kit_is)
    (case l_statement_words => first | k_is | k_exc | kit_is)
    (case c_statement_words => first | k_is | k_exc | kit_is)
    (case k_statement_words => first | k_is | k_exc | kit_is)
    (case h_choice_words => first | k_is | k_exc | kit_is)
    (case l_choice_words => first | k_is | k_exc | kit_is)
    (case c_choice_words => first | k_is | k_exc | kit_is)
    (case k_choice_words => first | k_is | k_exc | kit_is)
    (case h_Game_init => first | k_is | k_exc | kit_is)
    (case i_Game_init => first | k_is | k_exc | kit_is)
    (case l_Game_init => first | k_is | k_exc | kit_is)
    (case c_Game_init => first | k_is | k_exc | kit_is)
    (case k_Game_init => first | k_is | k_exc | kit_is)
    (case h_Game_eq => first | k_is | k_exc | kit_is)
    (case i_Game_eq => first | k_is | k_exc | kit_is)
    (case l_Game_eq => first | k_is | k_exc | kit_is)
    (case c_Game_eq => first | k_is | k_exc | kit_is)
    (case k_Game_eq => first | k_is | k_exc | kit_is)
    (case h_Game_proc => first | k_is | k_exc | kit_is)
    (case i_Game_proc => first | k_is | k_exc | kit_is)
    (case l_Game_proc => first | k_is | k_exc | kit_is)
    (case c_Game_proc => first | k_is | k_exc | kit_is)
    (case k_Game_proc => first | k_is | k_exc | kit_is)
    (case h_read_game => first | k_is | k_exc | kit_is)
    (case l_read_game => first | k_is | k_exc | kit_is)
    (case dl_read_game => first | k_is | k_exc | kit_is)
    (case lt0_read_game => first | k_is | k_exc | kit_is)
    (case c_read_game => first | k_is | k_exc | kit_is)
    (case k_read_game => first | k_is | k_exc | kit_is)
    (case h_first_parts => first | k_is | k_exc | kit_is)
    (case l_first_parts => first | k_is | k_exc | kit_is)
    (case c_first_parts => first | k_is | k_exc | kit_is)
    (case k_first_parts => first | k_is | k_exc | kit_is)
    (case h_another => first | k_is | k_exc | kit_is)
    (case l_another => first | k_is | k_exc | kit_is)
    (case c_another => first | k_is | k_exc | kit_is)
    (case k_another => first | k_is | k_exc | kit_is)
    (case h_read_variables => first | k_is | k_exc | kit_is)
    (case l_read_variables => first | k_is | k_exc | kit_is)
    (case c_read_variables => first | k_is | k_exc | kit_is)
    (case k_read_variables => first | k_is | k_exc | kit_is)
    (case h_read_maps => first | k_is | k_exc | kit_is)
    (case l_read_maps => first | k_is | k_exc | kit_is)
    (case c_read_maps => first | k_is | k_exc | kit_is)
    (case k_read_maps => first | k_is | k_exc | kit_is)
    (case h_read_procs => first | k_is | k_exc | kit_is)
    (case l_read_procs => first | k_is | k_exc | kit_is)
    (case c_read_procs => first | k_is | k_exc | kit_is)
    (case k_read_procs => first | k_is | k_exc | kit_is)
    (case h_read_proc => first | k_is | k_exc | kit_is)
    (case l_read_proc => first | k_is | k_exc | kit_is)
    (case c_read_proc => first | k_is | k_exc | kit_is)
    (case k_read_proc => first | k_is | k_exc | kit_is)
    (case h_read_locals => first | k_is | k_exc | kit_is)
    (case l_read_locals => first | k_is | k_exc | kit_is)
    (case c_read_locals => first | k_is | k_exc | kit_is)
    (case k_read_locals => first | k_is | k_exc | kit_is)
    (case h_game_text => first | k_is | k_exc | kit_is)
    (case l_game_text => first | k_is | k_exc | kit_is)
    (case c_game_text => first | k_is | k_exc | kit_is)
    (case k_game_text => first | k_is | k_exc | kit_is)
    (case h_row_words => first | k_is | k_exc | kit_is)
    (case l_row_words => first | k_is | k_exc | kit_is)
    (case c_row_words => first | k_is | k_exc | kit_is)
    (case k_row_words => first | k_is | k_exc | kit_is)
    (case h_proc_words => first | k_is | k_exc | kit_is)
    (case l_proc_words => first | k_is | k_exc | kit_is)
    (case c_proc_words => first | k_is | k_exc | kit_is)
    (case k_proc_words => first | k_is | k_exc | kit_is)
    (case h_law_cell => first | k_is | k_exc | kit_is)
    (case l_law_cell => first | k_is | k_exc | kit_is)
    (case c_law_cell => first | k_is | k_exc | kit_is)
    (case k_law_cell => first | k_is | k_exc | kit_is)
    (case h_law_at => first | k_is | k_exc | kit_is)
    (case l_law_at => first | k_is | k_exc | kit_is)
    (case c_law_at => first | k_is | k_exc | kit_is)
    (case k_law_at => first | k_is | k_exc | kit_is)
    (case h_law_many => first | k_is | k_exc | kit_is)
    (case l_law_many => first | k_is | k_exc | kit_is)
    (case c_law_many => first | k_is | k_exc | kit_is)
    (case k_law_many => first | k_is | k_exc | kit_is)
    (case h_law_deep => first | k_is | k_exc | kit_is)
    (case l_law_deep => first | k_is | k_exc | kit_is)
    (case c_law_deep => first | k_is | k_exc | kit_is)
    (case k_law_deep => first | k_is | k_exc | kit_is)
    (case h_law_tall => first | k_is | k_exc | kit_is)
    (case l_law_tall => first | k_is | k_exc | kit_is)
    (case c_law_tall => first | k_is | k_exc | kit_is)
    (case k_law_tall => first | k_is | k_exc | kit_is)
    (case h_law_fixed => first | k_is | k_exc | kit_is)
    (case l_law_fixed => first | k_is | k_exc | kit_is)
    (case c_law_fixed => first | k_is | k_exc | kit_is)
    (case k_law_fixed => first | k_is | k_exc | kit_is)
    (case h_law => first | k_is | k_exc | kit_is)
    (case l_law => first | k_is | k_exc | kit_is)
    (case c_law => first | k_is | k_exc | kit_is)
    (case k_law => first | k_is | k_exc | kit_is)
    (case hC_BadText => first | k_is | k_exc | kit_is)
    (case kc_BadText => first | k_is | k_exc | kit_is)
    (case xb_BadText => first | k_is | k_exc | kit_is)
    (case xt_BadText => first | k_is | k_exc | kit_is)
    (case xd_BadText => first | k_is | k_exc | kit_is)
    (case any_ => first | k_is | k_exc | kit_is)
    (case zn_super => first | k_is | k_exc | kit_is)
    (case hi_BadText_init => first | k_is | k_exc | kit_is)
    (case ti_BadText_init => first | k_is | k_exc | kit_is)
    (case li_BadText_init => first | k_is | k_exc | kit_is)
    (case ci_BadText_init => first | k_is | k_exc | kit_is)
    (case di_BadText_init => first | k_is | k_exc | kit_is)
    (case vi_BadText_init => rfl)
    (case xi_BadText_init => first | k_is | k_exc | kit_is)
    (case si_BadText_init => ks_is)
    (case ui_BadText_init => first | k_is | k_exc | kit_is)
    (case mi_BadText_init => first | k_is | k_exc | kit_is)
    (case lc_BadText_init => first | k_is | k_exc | kit_is)
    (case rm_BadText_init => decide +kernel)
    (case sa_BadText_init => first | k_is | k_exc | kit_is)
    (case no_BadText_init => first | k_is | k_exc | kit_is)
    (case hg_OPERATORS => first | k_is | k_exc | kit_is)
    (case lq_OPERATORS => first | k_is | k_exc | kit_is)
    (case hg_LOOKS => first | k_is | k_exc | kit_is)
    (case lq_LOOKS => first | k_is | k_exc | kit_is)
    (case hg_DEEPEST_EXPRESSION => first | k_is | k_exc | kit_is)
    (case hg_LONGEST_NAME => first | k_is | k_exc | kit_is)
    (case hg_LONGEST_NUMBER => first | k_is | k_exc | kit_is)
    (case hg_GREATEST_NUMBER => first | k_is | k_exc | kit_is)
    (case hg_LETTERS => first | k_is | k_exc | kit_is)
    (case hg_DIGITS => first | k_is | k_exc | kit_is)
    (case hg_KEY_WORDS => first | k_is | k_exc | kit_is)
    (case lq_KEY_WORDS => first | k_is | k_exc | kit_is)
    (case hg_DEEPEST_STATEMENT => first | k_is | k_exc | kit_is)
    (case hg_MOST_DRAWN => first | k_is | k_exc | kit_is)
    (case hg_MOST_OF_A_KIND => first | k_is | k_exc | kit_is)
    (case hg_MOST_LOCALS => first | k_is | k_exc | kit_is)
    (case hg_GREATEST_COUNT => first | k_is | k_exc | kit_is)
    (case hg_FORMS => first | k_is | k_exc | kit_is)
    (case zn_len => first | k_is | k_exc | kit_is)
    (case zn_all => first | k_is | k_exc | kit_is)
    (case zn_int => first | k_is | k_exc | kit_is)
    (case zn_str => first | k_is | k_exc | kit_is)
    (case zn_tuple => first | k_is | k_exc | kit_is)
    (case zn_zip => first | k_is | k_exc | kit_is)
    (case zn_isinstance => first | k_is | k_exc | kit_is)
    (case zn_list => first | k_is | k_exc | kit_is)
    (case zn_range => first | k_is | k_exc | kit_is)
    (case xga_BadText => first | k_is | k_exc | kit_is)
    (case xgg_BadText => first | k_is | k_exc | kit_is)
    (case sub_tt => first | k_is | k_exc | kit_is)
    (case ld_FORMS => first | k_is | k_exc | kit_is)
    (case rm_FORMS => decide +kernel)
    (case vi_FORMS0 => rfl)
    (case ns_FORMS0 => first | k_is | k_exc | kit_is)
    (case lv_FORMS0 => first | k_is | k_exc | kit_is)
    (case vi_FORMS1 => rfl)
    (case ns_FORMS1 => first | k_is | k_exc | kit_is)
    (case lv_FORMS1 => first | k_is | k_exc | kit_is)
    (case vi_FORMS2 => rfl)
    (case ns_FORMS2 => first | k_is | k_exc | kit_is)
    (case lv_FORMS2 => first | k_is | k_exc | kit_is)
    (case vi_FORMS3 => rfl)
    (case ns_FORMS3 => first | k_is | k_exc | kit_is)
    (case lv_FORMS3 => first | k_is | k_exc | kit_is)
    (case vi_FORMS4 => rfl)
    (case ns_FORMS4 => first | k_is | k_exc | kit_is)
    (case lv_FORMS4 => first | k_is | k_exc | kit_is)
    (case vi_FORMS5 => rfl)
    (case ns_FORMS5 => first | k_is | k_exc | kit_is)
    (case lv_FORMS5 => first | k_is | k_exc | kit_is)
    (case vi_FORMS6 => rfl)
    (case ns_FORMS6 => first | k_is | k_exc | kit_is)
    (case lv_FORMS6 => first | k_is | k_exc | kit_is)
    (case hP_ => exact ⟨rfl, rfl⟩)
#print axioms PySem.Challenge.cw_tellsnone_k03_bounds_of_a_text_holds
