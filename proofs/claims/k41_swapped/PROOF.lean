import PyProof.Rows.All
import Wide.All
import OpenK.AllK
import Wide.FinOn
import HandS.ForMost
import HandS.ForExc
import HandS.TupAny
import HandS.Wide
import HandS.IsInst
import HandS.Defaults
import PySem.Challenge.RW_tellsnone_k41_swapped_and_dropped_statem
import HandS.ExcIs
import HandS.ExcOwn
import HandS.RaiseMore
import HandS.FStr
import HandS.Deep
import HandS.SlotsOwn
import HandS.Star
import HandS.Zip
import HandS.Dict
import HandS.DictComp
import HandS.OwnEq
import HandS.Gcd
import HandS.SetBool
import HandS.SetKeys
import HandS.Walk
import HandS.TupMul
import KE.KExcSuper
import KE.KSuper
import KE.KExcMake
import HandS.ExcInit
import HandS.Nested
import PyProof.FitsInt
import HandS.Base
import HandS.Call
import HandS.CallLocal
import HandS.HotCalls
import KE.KExcIs
import HandS.ExcField
import KE.IntTextLaws
import HandS.TupSets
import HandS.Set
import HandS.SetFor
import PyProof.CodeObj
import PyProof.FactsAll.set_1
import KE.KStateDown
import Lean
import HandS.Exc
import HandS.Words
import HandS.HeadHook1
import HandS.HeadHook2
import HandS.HeadHook3
import HandS.Head0
import HandS.Head1
import HandS.Head2
import HandS.Head3
import HandS.HeadEnd
import Wide.Once
set_option Elab.async false
set_option linter.all false
set_option maxRecDepth 100000
set_option maxHeartbeats 2000000
/-! Games as data: expressions, statements, blocks, games; how they stand in the heap. -/
namespace Gm
open PySem L2
/-! ### data that stands keeps standing -/
theorem same_new {H : Hp} {p : Addr} (h : H p = none) (o : HO) : Same H (upd H p o) := fun b u q => by rw [upd_ne (ne_of_none q h)]; exact q
theorem sqT_mono {K : PySem.W.Frag} {H H' : Hp} {a : Addr} {xs : List V} (e : Same H H') (h : SqT K H a xs) : SqT K H' a xs := by
  rcases h with (h | ⟨o, h⟩) | h
  · exact .inl (.inl (e _ _ h))
  · exact .inl (.inr ⟨o, e _ _ h⟩)
  · exact .inr h
mutual
theorem dp_mono {K : PySem.W.Frag} {H H' : Hp} (s : Same H H') : ∀ (d : PyData) (v : V), Dp K H v d → Dp K H' v d
  | .none, _, h => by cases h; exact .non
  | .bool b, _, h => by cases h; exact .bl b
  | .int i, _, h => by cases h; exact .int i
  | .str x, _, h => by cases h; exact .str x
  | .list ds, _, h => by
    cases h with
    | lst hs ha => exact .lst (s.seq hs) (dp_monoAll s ds _ ha)
  | .tuple ds, _, h => by
    cases h with
    | tup hs ha => exact .tup (sqT_mono s hs) (dp_monoAll s ds _ ha)
  | .dict _, _, h => by cases h
theorem dp_monoAll {K : PySem.W.Frag} {H H' : Hp} (s : Same H H') : ∀ (ds : List PyData) (vs : List V), DpAll K H vs ds → DpAll K H' vs ds
  | [], _, h => by cases h; exact .nil
  | d :: ds, _, h => by
    cases h with
    | cons h1 h2 => exact .cons (dp_mono s d _ h1) (dp_monoAll s ds _ h2)
end
section
variable {K : PySem.W.Frag} {H : Hp}
theorem DpAll.len : ∀ {vs : List V} {ds : List PyData}, DpAll K H vs ds → vs.length = ds.length
  | _, _, .nil => rfl
  | _, _, .cons _ t => congrArg Nat.succ (DpAll.len t)
theorem DpAll.app : ∀ {vs ws : List V} {ds es : List PyData}, DpAll K H vs ds → DpAll K H ws es → DpAll K H (vs ++ ws) (ds ++ es)
  | _, _, _, _, .nil, q => q
  | _, _, _, _, .cons h t, q => .cons h (DpAll.app t q)
theorem DpAll.get : ∀ {vs : List V} {ds : List PyData} {i : Nat} {d : PyData}, DpAll K H vs ds → ds[i]? = some d → ∃ v, vs[i]? = some v ∧ Dp K H v d
  | _, _, _, _, .nil, e => by simp at e
  | _, _, 0, _, .cons h _, e => by simp at e; subst e; exact ⟨_, rfl, h⟩
  | _, _, i + 1, _, .cons _ t, e => by
    obtain ⟨v, h1, h2⟩ := DpAll.get (i := i) t (by simpa using e)
    exact ⟨v, by simpa using h1, h2⟩
theorem dp_strs : ∀ xs : List Str, DpAll K H (xs.map V.str) (xs.map PyData.str)
  | [] => .nil
  | x :: xs => .cons (.str x) (dp_strs xs)
/-- a new tuple of data -/
theorem dp_tup {p : Addr} {vs : List V} {ds : List PyData} (hp : H p = none) (h : DpAll K H vs ds) : Dp K (upd H p (.tup vs)) (.ref p) (.tuple ds) := .tup (SqT.of upd_same) (dp_monoAll (same_new hp _) _ _ h)
end
/-! ### rules whose written part is named (within comprehensions) -/
section
variable {X : Cx}
theorem ixlK (K : PySem.W.Frag) (h : X.K = K) : IxR X (rIxL K) := by subst h; exact ix_list
theorem ixtK (K : PySem.W.Frag) (h : X.K = K) : IxR X (rIxT K) := by subst h; exact ix_tup
theorem lenK (K : PySem.W.Frag) (h : X.K = K) : CallR X (.builtin "len") (fun xs H Q => ∃ p ys, xs = [.ref p] ∧ (SqL K H p ys ∨ SqT K H p ys) ∧ Q (.int ys.length) H) := by subst h; exact call_len_seq
theorem inK (K : PySem.W.Frag) (h : X.K = K) : OpR X (compareOp .In) (rIn K false) := by subst h; exact op_in_seq
theorem eqDK (K : PySem.W.Frag) (h : X.K = K) (hu : X.A.units + 64 < cLine) : OpR X (compareOp .Eq) (rEqD K) := by subst h; exact op_eqD hu
theorem neDK (K : PySem.W.Frag) (h : X.K = K) (hu : X.A.units + 64 < cLine) : OpR X (compareOp .NotEq) (rNeD K) := by subst h; exact op_neD hu
theorem slLK (K : PySem.W.Frag) (h : X.K = K) : SlR X (rSlL K) := by subst h; exact sl_list
theorem slTK (K : PySem.W.Frag) (h : X.K = K) : SlR X (rSlA K) := by subst h; exact sl_tupA
end
/-! ### data without lists: it stands as long as the tuples stand -/
mutual
def nol : PyData → Bool
  | .list _ => false
  | .dict _ => false
  | .tuple ds => nolAll ds
  | _ => true
def nolAll : List PyData → Bool
  | [] => true
  | d :: ds => nol d && nolAll ds
end
theorem nolAll_app : ∀ (xs ys : List PyData), nolAll (xs ++ ys) = (nolAll xs && nolAll ys)
  | [], ys => by show nolAll ys = (nolAll [] && nolAll ys); unfold nolAll; rw [Bool.true_and]; all_goals rfl
  | x :: xs, ys => by show (nol x && nolAll (xs ++ ys)) = ((nol x && nolAll xs) && nolAll ys); rw [nolAll_app xs ys, Bool.and_assoc]
theorem nolAll_strs : ∀ xs : List Str, nolAll (xs.map PyData.str) = true
  | [] => rfl
  | x :: xs => by show (nol (.str x) && nolAll (xs.map PyData.str)) = true; rw [nolAll_strs xs]; rfl
/-- tuples and what is locked stand -/
def Tups (H H' : Hp) : Prop := ∀ b o, H b = some o → ((∃ xs, o = .tup xs) ∨ ∃ ob u, o = .frz ob u) → H' b = some o
theorem Tups.of {H H' : Hp} (s : Same H H') : Tups H H' := fun b o e _ => s b o e
theorem Tups.refl (H : Hp) : Tups H H := fun _ _ e _ => e
theorem Tups.trans {H H1 H2 : Hp} (a : Tups H H1) (b : Tups H1 H2) : Tups H H2 := fun c o e k => b c o (a c o e k) k
theorem Tups.lst {H : Hp} {l : Addr} {xs : List V} {o : HO} (h : H l = some (.lst xs)) : Tups H (upd H l o) := fun b u e k => by
  rw [upd_ne]
  · exact e
  · intro z
    subst z
    rw [h] at e
    cases e
    rcases k with ⟨_, z⟩ | ⟨_, _, z⟩ <;> cases z
theorem sqT_tups {K : PySem.W.Frag} {H H' : Hp} {a : Addr} {xs : List V} (e : Tups H H') (h : SqT K H a xs) : SqT K H' a xs := by
  rcases h with (h | ⟨o, h⟩) | h
  · exact .inl (.inl (e _ _ h (.inl ⟨_, rfl⟩)))
  · exact .inl (.inr ⟨o, e _ _ h (.inr ⟨_, _, rfl⟩)⟩)
  · exact .inr h
mutual
theorem dp_tups {K : PySem.W.Frag} {H H' : Hp} (s : Tups H H') : ∀ (d : PyData) (v : V), nol d = true → Dp K H v d → Dp K H' v d
  | .none, _, _, h => by cases h; exact .non
  | .bool b, _, _, h => by cases h; exact .bl b
  | .int i, _, _, h => by cases h; exact .int i
  | .str x, _, _, h => by cases h; exact .str x
  | .list ds, _, n, h => by unfold nol at n; cases n
  | .tuple ds, _, n, h => by
    unfold nol at n
    cases h with
    | tup hs ha => exact .tup (sqT_tups s hs) (dp_tupsAll s ds _ n ha)
  | .dict _, _, _, h => by cases h
theorem dp_tupsAll {K : PySem.W.Frag} {H H' : Hp} (s : Tups H H') : ∀ (ds : List PyData) (vs : List V), nolAll ds = true → DpAll K H vs ds → DpAll K H' vs ds
  | [], _, _, h => by cases h; exact .nil
  | d :: ds, _, n, h => by
    unfold nolAll at n
    rw [Bool.and_eq_true] at n
    cases h with
    | cons h1 h2 => exact .cons (dp_tups s d _ n.1 h1) (dp_tupsAll s ds _ n.2 h2)
end
/-! ### expressions and statements -/
inductive Ex where
  | num (n : Int) | loc (x : Str) | var (x : Str) | has (t : Str) (e : Ex) | cell (t : Str) (e : Ex) | op (o : Str) (a b : Ex)
mutual
inductive Stm where
  | set (x : Str) (e : Ex) | lt (l : Str) (e : Ex) | draw (l : Str) (n : Int) | put (t : Str) (e f : Ex) | lot (l o : Str) (e : Ex) | ask (l p : Str) (e : Ex) | ite (e : Ex) (a b : Blk) | bad | after (a : Blk)
inductive Blk where
  | nil | cons (s : Stm) (r : Blk)
end
def Ex.d : Ex → PyData
  | .num n => .tuple [.str "number", .int n]
  | .loc x => .tuple [.str "local", .str x]
  | .var x => .tuple [.str "variable", .str x]
  | .has t e => .tuple [.str "has", .str t, e.d]
  | .cell t e => .tuple [.str "cell", .str t, e.d]
  | .op o a b => .tuple [.str o, a.d, b.d]
mutual
def Stm.d : Stm → PyData
  | .set x e => .tuple [.str "set", .str x, e.d]
  | .lt l e => .tuple [.str "let", .str l, e.d]
  | .draw l n => .tuple [.str "draw", .str l, .int n]
  | .put t e f => .tuple [.str "put", .str t, e.d, f.d]
  | .lot l o e => .tuple [.str "lot", .str l, .str o, e.d]
  | .ask l p e => .tuple [.str "ask", .str l, .str p, e.d]
  | .ite e a b => .tuple [.str "if", e.d, .tuple a.ds, .tuple b.ds]
  | .bad => .tuple [.str "bad"]
  | .after a => .tuple [.str "after", .tuple a.ds]
def Blk.ds : Blk → List PyData
  | .nil => []
  | .cons s r => s.d :: r.ds
end
def Blk.d (b : Blk) : PyData := .tuple b.ds
theorem Ex.nol : ∀ e : Ex, nol e.d = true
  | .num n => rfl
  | .loc x => rfl
  | .var x => rfl
  | .has t e => by show (Gm.nol (.str "has") && (Gm.nol (.str t) && (Gm.nol e.d && nolAll []))) = true; rw [Ex.nol e]; rfl
  | .cell t e => by show (Gm.nol (.str "cell") && (Gm.nol (.str t) && (Gm.nol e.d && nolAll []))) = true; rw [Ex.nol e]; rfl
  | .op o a b => by show (Gm.nol (.str o) && (Gm.nol a.d && (Gm.nol b.d && nolAll []))) = true; rw [Ex.nol a, Ex.nol b]; rfl
mutual
theorem Stm.nol : ∀ x : Stm, nol x.d = true
  | .set x e => by unfold Stm.d; show (Gm.nol (.str "set") && (Gm.nol (.str x) && (Gm.nol e.d && nolAll []))) = true; rw [Ex.nol e]; rfl
  | .lt x e => by unfold Stm.d; show (Gm.nol (.str "let") && (Gm.nol (.str x) && (Gm.nol e.d && nolAll []))) = true; rw [Ex.nol e]; rfl
  | .draw l n => by unfold Stm.d; rfl
  | .put t e f => by unfold Stm.d; show (Gm.nol (.str "put") && (Gm.nol (.str t) && (Gm.nol e.d && (Gm.nol f.d && nolAll [])))) = true; rw [Ex.nol e, Ex.nol f]; rfl
  | .lot l o e => by unfold Stm.d; show (Gm.nol (.str "lot") && (Gm.nol (.str l) && (Gm.nol (.str o) && (Gm.nol e.d && nolAll [])))) = true; rw [Ex.nol e]; rfl
  | .ask l p e => by unfold Stm.d; show (Gm.nol (.str "ask") && (Gm.nol (.str l) && (Gm.nol (.str p) && (Gm.nol e.d && nolAll [])))) = true; rw [Ex.nol e]; rfl
  | .ite e a b => by unfold Stm.d; show (Gm.nol (.str "if") && (Gm.nol e.d && (nolAll a.ds && (nolAll b.ds && nolAll [])))) = true; rw [Ex.nol e, Blk.nol a, Blk.nol b]; rfl
  | .bad => by unfold Stm.d; rfl
  | .after a => by unfold Stm.d; show (Gm.nol (.str "after") && (nolAll a.ds && nolAll [])) = true; rw [Blk.nol a]; rfl
theorem Blk.nol : ∀ b : Blk, nolAll b.ds = true
  | .nil => by unfold Blk.ds; rfl
  | .cons s r => by unfold Blk.ds; show (Gm.nol s.d && nolAll r.ds) = true; rw [Stm.nol s, Blk.nol r]; rfl
end
def Blk.of : List Stm → Blk
  | [] => .nil
  | s :: r => .cons s (Blk.of r)
def Blk.app : Blk → Blk → Blk
  | .nil, c => c
  | .cons s r, c => .cons s (r.app c)
theorem Blk.ds_app : ∀ (b c : Blk), (b.app c).ds = b.ds ++ c.ds
  | .nil, c => by rw [Blk.app, Blk.ds]; rfl
  | .cons s r, c => by rw [Blk.app, Blk.ds, Blk.ds, Blk.ds_app r c]; rfl
def Ex.dep : Ex → Nat
  | .num _ => 1
  | .loc _ => 1
  | .var _ => 1
  | .has _ e => e.dep + 1
  | .cell _ e => e.dep + 1
  | .op _ a b => max a.dep b.dep + 1
/-! the depth of ifs and afters, 0 without -/
mutual
def Stm.dep : Stm → Nat
  | .ite _ a b => max a.dep b.dep + 1
  | .after a => a.dep + 1
  | _ => 0
def Blk.dep : Blk → Nat
  | .nil => 0
  | .cons s r => max s.dep r.dep
end
def ops : List Str := ["+", "-", "*", "/", "mod", "<", "="]
/-- the names in scope -/
structure Sc where
  locs : List Str
  vars : List Str
  tabs : List Str
  lots : List Str
  asks : List Str
/-- an expression over the names of a scope, at most k deep -/
def Ex.Ok (s : Sc) : Nat → Ex → Prop
  | 0, _ => False
  | _ + 1, .num n => 0 ≤ n ∧ n ≤ 65535
  | _ + 1, .loc x => x ∈ s.locs
  | _ + 1, .var x => x ∈ s.vars
  | k + 1, .has t e => t ∈ s.tabs ∧ e.Ok s k
  | k + 1, .cell t e => t ∈ s.tabs ∧ e.Ok s k
  | k + 1, .op o a b => o ∈ ops ∧ a.Ok s k ∧ b.Ok s k
theorem Ex.Ok.mono {s : Sc} : ∀ {k j : Nat} {e : Ex}, e.Ok s k → k ≤ j → e.Ok s j
  | 0, _, _, h, _ => h.elim
  | _ + 1, 0, _, _, hj => absurd hj (by omega)
  | _ + 1, _ + 1, .num _, h, _ => h
  | _ + 1, _ + 1, .loc _, h, _ => h
  | _ + 1, _ + 1, .var _, h, _ => h
  | k + 1, j + 1, .has _ _, h, hj => ⟨h.1, h.2.mono (by omega)⟩
  | k + 1, j + 1, .cell _ _, h, hj => ⟨h.1, h.2.mono (by omega)⟩
  | k + 1, j + 1, .op _ _ _, h, hj => ⟨h.1, h.2.1.mono (by omega), h.2.2.mono (by omega)⟩
/-! how many statements -/
def Blk.len : Blk → Nat
  | .nil => 0
  | .cons _ r => r.len + 1
/-! a statement over a scope: expressions at most k deep, ifs and afters at most d deep -/
mutual
def Stm.Ok (s : Sc) (k : Nat) : Nat → Stm → Prop
  | _, .set x e => x ∈ s.vars ∧ e.Ok s k
  | _, .lt l e => l ∈ s.locs ∧ e.Ok s k
  | _, .draw l n => l ∈ s.locs ∧ 1 ≤ n ∧ n ≤ 64
  | _, .put t e f => t ∈ s.tabs ∧ e.Ok s k ∧ f.Ok s k
  | _, .lot l o e => l ∈ s.locs ∧ o ∈ s.lots ∧ e.Ok s k
  | _, .ask l p e => l ∈ s.locs ∧ p ∈ s.asks ∧ e.Ok s k
  | 0, .ite _ _ _ => False
  | d + 1, .ite e a b => e.Ok s k ∧ a.Ok s k d ∧ b.Ok s k d ∧ a.len ≤ 4 ∧ b.len ≤ 4
  | _, .bad => True
  | 0, .after _ => False
  | d + 1, .after a => a.Ok s k d ∧ a.len ≤ 4
def Blk.Ok (s : Sc) (k : Nat) : Nat → Blk → Prop
  | _, .nil => True
  | d, .cons x r => x.Ok s k d ∧ r.Ok s k d
end
theorem Blk.len_ds : ∀ b : Blk, b.ds.length = b.len
  | .nil => by rw [Blk.ds]; rfl
  | .cons s r => by rw [Blk.ds, Blk.len, List.length_cons, Blk.len_ds r]
theorem Blk.len_app : ∀ (b c : Blk), (b.app c).len = b.len + c.len
  | .nil, c => by rw [Blk.app, Blk.len, Nat.zero_add]
  | .cons s r, c => by rw [Blk.app, Blk.len, Blk.len, Blk.len_app r c]; omega
theorem Blk.ok_app {s : Sc} {k d : Nat} : ∀ {b c : Blk}, b.Ok s k d → c.Ok s k d → (b.app c).Ok s k d
  | .nil, c, _, h => by rw [Blk.app]; exact h
  | .cons x r, c, h1, h2 => by
    rw [Blk.app]
    unfold Blk.Ok at h1 ⊢
    exact ⟨h1.1, Blk.ok_app h1.2 h2⟩
/-! ### picks -/
theorem pick_mem {xs : List Str} {r : Int} (h : xs ≠ []) : ∃ x ∈ xs, atI (xs.map V.str) (r % (((xs.map V.str).length : Nat) : Int)) = some (.str x) := by
  have hl : 0 < xs.length := List.length_pos_iff.mpr h
  rw [List.length_map]
  have h0 := Int.emod_nonneg r (by omega : (xs.length : Int) ≠ 0)
  have h1 := Int.emod_lt_of_pos r (by omega : (0 : Int) < xs.length)
  have hk : (r % (xs.length : Int)).toNat < xs.length := by omega
  refine ⟨xs[(r % (xs.length : Int)).toNat], List.getElem_mem hk, ?_⟩
  exact at_of (j := (r % (xs.length : Int)).toNat) (by omega) (by rw [List.getElem?_map, List.getElem?_eq_getElem hk] <;> rfl)
theorem len_pos {xs : List Str} (h : xs ≠ []) : (0 : Int) < (((xs.map V.str).length : Nat) : Int) := by
  rw [List.length_map]
  have := List.length_pos_iff.mpr h
  omega
/-- an item of a written display, whatever the rest -/
theorem pick_disp {vs : List V} {r : Int} {n : Nat} (hn : vs.length = n) (h : 0 < n) : ∃ x ∈ vs, atI vs (r % (n : Int)) = some x := by
  subst hn
  have h0 := Int.emod_nonneg r (by omega : (vs.length : Int) ≠ 0)
  have h1 := Int.emod_lt_of_pos r (by omega : (0 : Int) < vs.length)
  have hk : (r % (vs.length : Int)).toNat < vs.length := by omega
  exact ⟨vs[(r % (vs.length : Int)).toNat], List.getElem_mem hk, at_of (j := (r % (vs.length : Int)).toNat) (by omega) (List.getElem?_eq_getElem hk)⟩
theorem pick_op {r : Int} : ∃ o ∈ ops, atI ([.str "+", .str "-", .str "*", .str "/", .str "mod", .str "<", .str "="] : List V) (r % 7) = some (.str o) := by
  obtain ⟨x, hx, e⟩ := pick_mem (xs := ops) (r := r) (by decide)
  exact ⟨x, hx, e⟩
theorem pick_two {a b : V} {r : Int} : atI ([a, b] : List V) (r % 2) = some a ∨ atI ([a, b] : List V) (r % 2) = some b := by
  have h0 := Int.emod_nonneg r (by decide : (2 : Int) ≠ 0)
  have h1 := Int.emod_lt_of_pos r (by decide : (0 : Int) < 2)
  have : r % 2 = 0 ∨ r % 2 = 1 := by omega
  rcases this with e | e
  · rw [e]; exact .inl rfl
  · rw [e]; exact .inr rfl
theorem and_if {c A B T1 : Prop} [Decidable c] (hB : B) (hT : c → B → T1) : if c then T1 else (if false = true then A else B) := by
  by_cases h : c
  · rw [if_pos h]; exact hT h hB
  · rw [if_neg h, if_neg Bool.false_ne_true]; exact hB
theorem ne_of_len {xs : List Str} (h : decide ((0 : Int) < (((xs.map V.str).length : Nat) : Int)) = true) : xs ≠ [] := by
  intro e
  subst e
  exact absurd (of_decide_eq_true h) (by decide)
/-- an if without an else: what holds behind it, both ways -/
theorem if_rest {b A : Prop} [Decidable b] {D : Ends} {σ : L2.St} {H : Hp} (I : L2.St → Hp → Prop) (rest : ∀ σ H, I σ H → D.nx σ H) (ht : b → (∀ σ H, I σ H → D.nx σ H) → A) (he : ¬ b → I σ H) : if b then A else tNext D σ H := by
  by_cases h : b
  · rw [if_pos h]; exact ht h rest
  · rw [if_neg h]; exact rest σ H (he h)
theorem Blk.ok_nil {s : Sc} {k d : Nat} : Blk.nil.Ok s k d := by unfold Blk.Ok; trivial
theorem Blk.ok_cons {s : Sc} {k d : Nat} {x : Stm} {r : Blk} (h : x.Ok s k d) (hr : r.Ok s k d) : (Blk.cons x r).Ok s k d := by unfold Blk.Ok; exact ⟨h, hr⟩
/-- a block that stands within a statement: few statements -/
def Blk.OkI (b : Blk) (s : Sc) (k d : Nat) : Prop := b.Ok s k d ∧ b.len ≤ 4
theorem Blk.oki {s : Sc} {k d : Nat} {b : Blk} (h : b.Ok s k d) (hl : Nat.ble b.len 4 = true := by rfl) : b.OkI s k d := ⟨h, Nat.le_of_ble_eq_true hl⟩
theorem Stm.ok_ite {s : Sc} {k d : Nat} {e : Ex} {a b : Blk} (h : e.Ok s k) (ha : a.OkI s k d) (hb : b.OkI s k d) : (Stm.ite e a b).Ok s k (d + 1) := by unfold Stm.Ok; exact ⟨h, ha.1, hb.1, by have := ha.2; omega, by have := hb.2; omega⟩
theorem Stm.ok_after {s : Sc} {k d : Nat} {a : Blk} (ha : a.OkI s k d) : (Stm.after a).Ok s k (d + 1) := by unfold Stm.Ok; exact ⟨ha.1, by have := ha.2; omega⟩
theorem Stm.ok_bad {s : Sc} {k d : Nat} : Stm.bad.Ok s k d := by cases d <;> (unfold Stm.Ok; trivial)
mutual
theorem Stm.ok_mono {s : Sc} {k : Nat} : ∀ {d e : Nat} {x : Stm}, x.Ok s k d → d ≤ e → x.Ok s k e
  | d, e, .set _ _, h, _ => by unfold Stm.Ok at h ⊢; exact h
  | d, e, .lt _ _, h, _ => by unfold Stm.Ok at h ⊢; exact h
  | d, e, .draw _ _, h, _ => by unfold Stm.Ok at h ⊢; exact h
  | d, e, .put _ _ _, h, _ => by unfold Stm.Ok at h ⊢; exact h
  | d, e, .lot _ _ _, h, _ => by unfold Stm.Ok at h ⊢; exact h
  | d, e, .ask _ _ _, h, _ => by unfold Stm.Ok at h ⊢; exact h
  | d, e, .bad, _, _ => Stm.ok_bad
  | 0, e, .ite _ _ _, h, _ => by unfold Stm.Ok at h; exact h.elim
  | d + 1, 0, .ite _ _ _, h, he => absurd he (by omega)
  | d + 1, e + 1, .ite _ _ _, h, he => by unfold Stm.Ok at h ⊢; exact ⟨h.1, Blk.ok_mono h.2.1 (by omega), Blk.ok_mono h.2.2.1 (by omega), h.2.2.2⟩
  | 0, e, .after _, h, _ => by unfold Stm.Ok at h; exact h.elim
  | d + 1, 0, .after _, h, he => absurd he (by omega)
  | d + 1, e + 1, .after _, h, he => by unfold Stm.Ok at h ⊢; exact ⟨Blk.ok_mono h.1 (by omega), h.2⟩
theorem Blk.ok_mono {s : Sc} {k : Nat} : ∀ {d e : Nat} {b : Blk}, b.Ok s k d → d ≤ e → b.Ok s k e
  | d, e, .nil, _, _ => Blk.ok_nil
  | d, e, .cons x r, h, he => by unfold Blk.Ok at h ⊢; exact ⟨Stm.ok_mono h.1 he, Blk.ok_mono h.2 he⟩
end
/-! ### a list of data that grows -/
structure Acc (K : PySem.W.Frag) (H0 H : Hp) (l : Addr) (vs : List V) (ds : List PyData) : Prop where
  s : Same H0 H
  f : H0 l = none
  l : H l = some (.lst vs)
  d : DpAll K H vs ds
  n : nolAll ds = true
section
variable {K : PySem.W.Frag} {H0 H H' : Hp} {l : Addr} {vs : List V} {ds : List PyData} {v : V} {d : PyData}
theorem Acc.start (h : H0 l = none) : Acc K H0 (upd H0 l (.lst [])) l [] [] := ⟨same_new h _, h, upd_same, .nil, rfl⟩
theorem Acc.grow (a : Acc K H0 H l vs ds) (e : Same H H') : Acc K H0 H' l vs ds := ⟨a.s.trans e, a.f, e _ _ a.l, dp_monoAll e _ _ a.d, a.n⟩
theorem Acc.add (a : Acc K H0 H l vs ds) (hd : Dp K H v d) (hn : nol d = true) : Acc K H0 (upd H l (.lst (vs ++ [v]))) l (vs ++ [v]) (ds ++ [d]) := by
  have tp : Tups H (upd H l (.lst (vs ++ [v]))) := Tups.lst a.l
  refine ⟨fun b o e => by rw [upd_ne (ne_of_none e a.f)]; exact a.s _ _ e, a.f, upd_same, DpAll.app (dp_tupsAll tp _ _ a.n a.d) (.cons (dp_tups tp _ _ hn hd) .nil), ?_⟩
  rw [nolAll_app, a.n]
  show (true && (nol d && nolAll [])) = true
  rw [hn]
  rfl
theorem Acc.len (a : Acc K H0 H l vs ds) : vs.length = ds.length := DpAll.len a.d
end
/-! ### a slice of a tuple, whichever it is -/
def rSlB (K : PySem.W.Frag) : V → Option Int → Option Int → Hp → VK → Prop := fun x lo hi H Q => ∃ a xs, x = .ref a ∧ SqT K H a xs ∧ ∀ p H', Same H H' → SqT K H' p (cutV xs lo hi) → Q (.ref p) H'
theorem slTB {X : Cx} (K : PySem.W.Frag) (h : X.K = K) : SlR X (rSlB K) := by
  subst h
  intro pins s σ H x v vl vu lo hi sl Q I rx hs pl pu h
  obtain ⟨a, xs, rfl, hx, q⟩ := h
  refine sl_tupA pins s σ H _ v vl vu lo hi sl Q I rx hs pl pu ⟨a, xs, rfl, hx, fun w => q a H (Same.refl _) ?_, fun _ p hp => q p _ (same_new hp _) (SqT.of upd_same)⟩
  have e : cutV xs lo hi = xs := by
    unfold cutV
    rw [w.1, w.2, List.drop_zero, Nat.sub_zero, List.take_length]
  rw [e]
  exact hx
theorem cut3 {r : Int} (h0 : 0 ≤ r) (h1 : r < 2) : cutV [.str "g", .str "a", .str "b"] none (some (2 + r)) = ([("g" : Str), "a"]).map V.str ∨ cutV [.str "g", .str "a", .str "b"] none (some (2 + r)) = ([("g" : Str), "a", "b"]).map V.str := by
  have : r = 0 ∨ r = 1 := by omega
  rcases this with rfl | rfl
  · exact .inl rfl
  · exact .inr rfl
theorem take_more {α : Type} : ∀ {l : List α} {i : Nat} {x : α}, l[i]? = some x → l.take (i + 1) = l.take i ++ [x]
  | [], i, x, h => by simp at h
  | a :: l, 0, x, h => by
    have e : a = x := Option.some.inj h
    subst e
    rfl
  | a :: l, i + 1, x, h => by
    have ih := take_more (l := l) (i := i) (x := x) h
    show a :: l.take (i + 1) = a :: l.take i ++ [x]
    rw [ih]
    rfl
theorem str_at {xs : List Str} {i : Nat} (h : i < (((xs.map V.str).length : Nat) : Int).toNat) : ∃ x, xs[i]? = some x ∧ atI (xs.map V.str) (0 + (i : Int)) = some (.str x) := by
  rw [List.length_map] at h
  have hi : i < xs.length := by omega
  exact ⟨xs[i], List.getElem?_eq_getElem hi, at_of (j := i) (by omega) (by rw [List.getElem?_map, List.getElem?_eq_getElem hi] <;> rfl)⟩
/-! ### games -/
structure Pr where
  name : Str
  size : Int
  ans : Int
  locs : List Str
  block : Blk
  res : Ex
structure Ga where
  vars : List (Str × Int × Int)
  tabs : List (Str × Int × Int)
  lots : List (Str × Int × Int)
  procs : List Pr
def trip (t : Str × Int × Int) : PyData := .tuple [.str t.1, .int t.2.1, .int t.2.2]
def strD (xs : List Str) : PyData := .tuple (xs.map PyData.str)
def Pr.d (p : Pr) : PyData := .tuple [.str p.name, .int p.size, .int p.ans, strD p.locs, p.block.d, p.res.d]
def trips (ts : List (Str × Int × Int)) : PyData := .tuple (ts.map trip)
def Ga.d (g : Ga) : PyData := .tuple [trips g.vars, trips g.tabs, trips g.lots, .tuple (g.procs.map Pr.d)]
theorem nol_trip (t : Str × Int × Int) : nol (trip t) = true := rfl
theorem nolAll_trips : ∀ ts : List (Str × Int × Int), nolAll (ts.map trip) = true
  | [] => rfl
  | t :: ts => by show (nol (trip t) && nolAll (ts.map trip)) = true; rw [nolAll_trips ts]; rfl
theorem Pr.nol (p : Pr) : nol p.d = true := by
  show (Gm.nol (.str p.name) && (Gm.nol (.int p.size) && (Gm.nol (.int p.ans) && (nolAll (p.locs.map PyData.str) && (nolAll p.block.ds && (Gm.nol p.res.d && nolAll [])))))) = true
  rw [nolAll_strs, Blk.nol, Ex.nol]
  rfl
theorem nolAll_procs : ∀ ps : List Pr, nolAll (ps.map Pr.d) = true
  | [] => rfl
  | p :: ps => by show (nol p.d && nolAll (ps.map Pr.d)) = true; rw [nolAll_procs ps, Pr.nol]; rfl
theorem Ga.nol (g : Ga) : nol g.d = true := by
  show (nolAll (g.vars.map trip) && (nolAll (g.tabs.map trip) && (nolAll (g.lots.map trip) && (nolAll (g.procs.map Pr.d) && nolAll [])))) = true
  rw [nolAll_trips, nolAll_trips, nolAll_trips, nolAll_procs]
  rfl
def Ga.sc (g : Ga) (locs asks : List Str) : Sc := ⟨locs, g.vars.map (·.1), g.tabs.map (·.1), g.lots.map (·.1), asks⟩
/-! ### the games that the laws draw -/
structure PrOk (g : Ga) (p : Pr) : Prop where
  size : 1 ≤ p.size ∧ p.size ≤ 3
  ans : 2 ≤ p.ans ∧ p.ans ≤ 4
  locs : p.locs = (["g", "a"] : List Str) ∨ p.locs = (["g", "a", "b"] : List Str)
  block : p.block.Ok (g.sc p.locs []) 3 2
  len : 1 ≤ p.block.len ∧ p.block.len ≤ 4
  res : p.res.Ok (g.sc p.locs []) 3
structure GaOk (g : Ga) : Prop where
  vars : g.vars.map (·.1) = ([] : List Str) ∨ g.vars.map (·.1) = (["x"] : List Str) ∨ g.vars.map (·.1) = (["x", "y"] : List Str)
  var : ∀ v ∈ g.vars, (v.2.1 = 2 ∨ v.2.1 = 3 ∨ v.2.1 = 65535) ∧ (v.2.2 = 0 ∨ v.2.2 = 1)
  tabs : g.tabs.map (·.1) = ([] : List Str) ∨ g.tabs.map (·.1) = (["t"] : List Str) ∨ g.tabs.map (·.1) = (["t", "m"] : List Str)
  tab : ∀ v ∈ g.tabs, (v.2.1 = 2 ∨ v.2.1 = 3) ∧ (v.2.2 = 2 ∨ v.2.2 = 3)
  lots : g.lots.map (·.1) = ([] : List Str) ∨ g.lots.map (·.1) = (["o"] : List Str) ∨ g.lots.map (·.1) = (["o", "k"] : List Str)
  lot : ∀ v ∈ g.lots, (v.2.1 = 2 ∨ v.2.1 = 3) ∧ v.2.2 = 2
  procs : g.procs.map (·.name) = (["p"] : List Str) ∨ g.procs.map (·.name) = (["p", "r"] : List Str)
  proc : ∀ p ∈ g.procs, PrOk g p
/-! ### more picks -/
theorem dig_at {ds : List Int} {i : Int} (h0 : 0 ≤ i) (h1 : i < (ds.length : Int)) : ∃ d ∈ ds, atI (ds.map V.int) i = some (.int d) := by
  have hk : i.toNat < ds.length := by omega
  exact ⟨ds[i.toNat], List.getElem_mem hk, at_of (j := i.toNat) (by omega) (by rw [List.getElem?_map, List.getElem?_eq_getElem hk] <;> rfl)⟩
theorem cut2 {a b : Str} {j : Int} (h0 : 0 ≤ j) (h1 : j ≤ 2) : cutV ([V.str a, V.str b]) none (some j) = (([a, b] : List Str).take j.toNat).map V.str := by
  have : j = 0 ∨ j = 1 ∨ j = 2 := by omega
  rcases this with rfl | rfl | rfl <;> rfl
theorem take2 {a b : Str} (n : Nat) (h : n ≤ 2) : ([a, b] : List Str).take n = [] ∨ ([a, b] : List Str).take n = [a] ∨ ([a, b] : List Str).take n = [a, b] := by
  have : n = 0 ∨ n = 1 ∨ n = 2 := by omega
  rcases this with rfl | rfl | rfl
  · exact .inl rfl
  · exact .inr (.inl rfl)
  · exact .inr (.inr rfl)
end Gm
set_option Elab.async false
set_option linter.all false
set_option maxRecDepth 100000
set_option maxHeartbeats 2000000
/-! Rules of my own over the hand layer: operators, ==, str of own instances; a call that makes an instance within a try; isinstance of a held error with several classes. -/
namespace Mine
open PySem PySem.Spec PyProof.Rows L2
section
variable {X : Cx} {CX : CXT} {C f : Addr} {fd : FuncData} {ps : List Str} {sp : Sp} {E : XK} {n : Nat}

/-- a binary operator of two instances of one class -/
def rOwn (C : Addr) (sp : Sp) (E : XK) : R2 := fun x y H Q => ∃ a b dx dy fs gs, x = .ref a ∧ y = .ref b ∧ H a = some (.ins C dx fs) ∧ H b = some (.ins C dy gs) ∧ sp [.ref a, .ref b] H Q E
theorem op_own {op : Operator} (F : FnOk X.prog X.w X.K X.mg X.base CX n f fd ps sp) (hr : Room n X.A) (hb : Binds X.K fd ps []) (hx : Passes CX X E)
    (hc : PySem.W.selfFirst X.K C = true) (hs : PySem.W.findIn X.K (.ref C) (PySem.dunder op.info.2) = some (some (.ref f))) (hf : PySem.W.isFn X.K (.ref f) = true) : OpR X (binaryOp op) (rOwn C sp E) := by
  intro pins s σ H x y v u Q I rx ry h
  obtain ⟨a, b, dx, dy, fs, gs, rfl, rfl, ha, hb', q⟩ := h
  cases rx
  cases ry
  obtain ⟨mA, J, _⟩ := ins_get I.hok ha
  obtain ⟨mB, J', _⟩ := ins_get I.hok hb'
  obtain ⟨od, J, _⟩ := J.look
  obtain ⟨od', J', _⟩ := J'.look
  obtain ⟨m, hF⟩ := I.fr
  refine PySem.W.binop_K hF I.ok.mod.kin J J'.type hc hs hf ?_
  have r2 : Vals [V.ref a, V.ref b] [Value.ref a, Value.ref b] := .cons rfl (.cons rfl .nil)
  refine wpAny_mono (run_fn (dvs := []) (ds := []) F hr hb .nil hx I r2 (by simpa using q)) (fun v s' hv => ?_) fun _ _ z => z
  obtain ⟨z, H', I', rz, q'⟩ := hv
  exact SlX.cmpback rz ⟨z, H', I', rz, q'⟩

/-- == of two instances of one class with an own __eq__ -/
theorem op_ownEq (F : FnOk X.prog X.w X.K X.mg X.base CX n f fd ps sp) (hr : Room n X.A) (hb : Binds X.K fd ps []) (hx : Passes CX X E)
    (hs : PySem.W.findIn X.K (.ref C) "__eq__" = some (some (.ref f))) (hf : PySem.W.isFn X.K (.ref f) = true) : OpR X (compareOp .Eq) (rOwn C sp E) := by
  intro pins s σ H x y v u Q I rx ry h
  obtain ⟨a, b, dx, dy, fs, gs, rfl, rfl, ha, hb', q⟩ := h
  cases rx
  cases ry
  obtain ⟨mA, J, _⟩ := ins_get I.hok ha
  obtain ⟨mB, J', _⟩ := ins_get I.hok hb'
  obtain ⟨od, J, _⟩ := J.look
  obtain ⟨od', J', _⟩ := J'.look
  obtain ⟨m, hF⟩ := I.fr
  show wpAny (model X.prog X.w) X.A (richCompare .Eq _ _) (EP X pins σ Q) X.xe s
  refine PySem.W.cmp_K (op := .Eq) (tb := .ref C) hr.units0 hF I.ok.mod.kin J J'.type (by simp [PySem.W.notFirst]) hs hf ?_
  have r2 : Vals [V.ref a, V.ref b] [Value.ref a, Value.ref b] := .cons rfl (.cons rfl .nil)
  refine wpAny_mono (run_fn (dvs := []) (ds := []) F hr hb .nil hx I r2 (by simpa using q)) (fun v s' hv => ?_) fun _ _ z => z
  obtain ⟨z, H', I', rz, q'⟩ := hv
  exact SlX.cmpback rz ⟨z, H', I', rz, q'⟩

theorem strback {P : Value → Shared → Prop} {z : Str} {v : Value} {s' : Shared} (r : RelV (.str z) v) (h : P v s') : PySem.W.StrBack P v s' := by
  obtain ⟨t, rfl⟩ := r
  exact h
/-- str(x) of an instance with an own __str__ -/
def rStrOwn (C : Addr) (sp : Sp) (E : XK) : List V → Hp → VK → Prop := fun xs H Q => ∃ a dx fs, xs = [.ref a] ∧ H a = some (.ins C dx fs) ∧ sp [.ref a] H (fun v H' => ∃ z, v = .str z ∧ Q (.str z) H') E
theorem call_strOwn (F : FnOk X.prog X.w X.K X.mg X.base CX n f fd ps sp) (hr : Room (n + 2) X.A) (hb : Binds X.K fd ps []) (hx : Passes CX X E)
    (hs : PySem.W.findIn X.K (.ref C) "__str__" = some (some (.ref f))) (hf : PySem.W.isFn X.K (.ref f) = true) : CallR X (.type "str") (rStrOwn C sp E) := by
  intro pins s σ H xs us Q I r h
  obtain ⟨a, dx, fs, rfl, ha, q⟩ := h
  obtain ⟨u, rfl, ru⟩ := vals1 r
  cases ru
  obtain ⟨mA, J, _⟩ := ins_get I.hok ha
  obtain ⟨od, J, _⟩ := J.look
  have hr2 : Room n X.A.in1.in1 := hr.in1.in1
  refine PySem.W.kso_call hr2.units0 I.kIn J hs hf ?_
  have e0 : Env0 X.prog X.w X.K X.mg X.base X.A.in1.in1 X.stack s H := by
    have e := I.env0
    exact ⟨e.frames, e.mod, e.bs, e.bsz, e.funs, e.frf, e.hok, e.bare⟩
  have hl := F.len _ _ _ _ q
  have r2 : Vals [V.ref a] [Value.ref a] := .cons rfl .nil
  refine wpAny_call (codeAny_mono (F.run _ X.stack s H ⟨[.ref a], []⟩ [.ref a] [.ref a] _ E hr2 e0 (by
    have := hb s [.ref a] I.kIn (by simpa using hl)
    simpa using this) r2 q) fun r s' hq => ?_)
  cases r with
  | error e => exact hx pins σ H s e s' I hq
  | ok fl =>
    cases fl with
    | ret w =>
      obtain ⟨z, H', I', rz, z', ez, q'⟩ := I.after hq
      subst ez
      exact strback rz ⟨.str z', H', I', rz, q'⟩
    | next => exact False.elim hq
    | brk => exact False.elim hq
    | cont => exact False.elim hq
end

/-! ### C(e, ..) that may raise, within a try body -/
section
variable {X : Cx} {CX : CXT} {k : Nat} {f C : Addr} {fd : FuncData} {ps : List Str} {sp : Sp} {E : L2.St → XK} {x : Str} {p pos : Pos} {e : Expr} {es : List Expr} {t : TA}
theorem run_makeS {pins : List (Addr × Obj)} {σ : L2.St} {H : Hp} {s : Shared} {Q : VK} {us : List Value} {vs : List V} (M : Mk X.K C f) (F : FnOk X.prog X.w X.K X.mg X.base CX k f fd ps sp) (hr : Room (k + 1) X.A) (hb : Binds X.K fd ps [])
    (hx : PassesAt CX X σ (E σ)) (I : Inv X pins σ H s) (r : Vals vs us)
    (h : ∀ x dx, H x = none → H dx = none → dx ≠ x → sp (.ref x :: vs) (upd (upd H dx (.own x)) x (.ins C dx [])) (fun v H2 => v = .non ∧ Q (.ref x) H2) (E σ)) :
    wpAny (model X.prog X.w) X.A (call (.ref C) us) (EP X pins σ Q) X.xe s := by
  have hq := h (s.heap.objs.size + 1) s.heap.objs.size (I.hok.fresh (Nat.le_succ _)) (I.hok.fresh (Nat.le_refl _)) (Nat.ne_of_lt (Nat.lt_succ_self _))
  have I2 := Inv.made (C := C) I
  have r2 : Vals (V.ref (s.heap.objs.size + 1) :: vs) (Value.ref (s.heap.objs.size + 1) :: us) := .cons rfl r
  have hl : (Value.ref (s.heap.objs.size + 1) :: us ++ []).length = ps.length := by
    have e := r2.length
    rw [F.len _ _ _ _ hq] at e
    rw [List.append_nil]
    exact e.symm
  refine wpAny_call ((make_map (f := f) I.kIn M.makes M.init (beq_iff_eq.mp M.fn) (codeAny_mono (F.run _ X.stack _ _ ⟨Value.ref (s.heap.objs.size + 1) :: us, []⟩ (Value.ref (s.heap.objs.size + 1) :: us) _ _ (E σ) (hr.make C us [])
    (I2.env0.make C us []) (by have z := hb _ (Value.ref (s.heap.objs.size + 1) :: us) I2.kIn hl; rw [List.append_nil] at z; exact z) r2 hq) fun r s' hq' => ?_)))
  cases r with
  | error e => exact hx pins _ _ e s' I2 hq'
  | ok fl =>
    cases fl with
    | ret u =>
      obtain ⟨v, H', I3, rv, ev, q3⟩ := I2.after hq'
      subst ev
      exact ⟨rv, ⟨V.ref (s.heap.objs.size + 1), H', I3, rfl, q3⟩⟩
    | next => exact False.elim hq'
    | brk => exact False.elim hq'
    | cont => exact False.elim hq'
end
/-- C(e, ..) within a try body -/
def tMakeS (C : Addr) (sp : Sp) (E : L2.St → XK) (t : TA) : TE := fun σ H Q => t σ H fun vs H1 => ∀ x dx, H1 x = none → H1 dx = none → dx ≠ x →
  sp (.ref x :: vs) (upd (upd H1 dx (.own x)) x (.ins C dx [])) (fun v H2 => v = .non ∧ Q (.ref x) H2) (E σ)
section
variable {X : Cx} {CX : CXT} {k : Nat} {f C : Addr} {fd : FuncData} {ps : List Str} {sp : Sp} {E : L2.St → XK} {x : Str} {p pos : Pos} {e : Expr} {es : List Expr} {t : TA}
theorem pe_makeS (M : Mk X.K C f) (F : FnOk X.prog X.w X.K X.mg X.base CX k f fd ps sp) (hr : Room (k + 1) X.A) (hg : Gl X x) (hm : X.mg x = some (.ref C)) (hb : L2.Binds X.K fd ps []) (hx : ∀ σ, PassesAt CX X σ (E σ))
    (ha : PA X (e :: es) t) (hdb : (x == ("__debug__" : Str)) = false := by decide) (he : starEach (e :: es) X.env = (false, eval e X.env) :: starEach es X.env := by rfl) (hpl : (backTo pos (starEach es X.env)).any (·.1) = false := by rfl) :
    PE X (.Call (.Name x p) (e :: es) [] pos) (tMakeS C sp E t) := by
  refine ⟨fun pins s σ H Q I h => ?_⟩
  refine wpAny_Call_Name_kw (ld_glob I hg hm ?_ hdb)
  refine PySem.W.callWith_K (h₀ := X.base) I.ok.mod.kin M.kp (thn (ha.run pos pins s σ H _ I h) fun us s1 ⟨vs, H1, I1, r, q⟩ => ⟨I1.kIn, ?_⟩) he hpl
  exact run_makeS M F hr hb (hx σ) I1 r q
end

/-! ### isinstance of the error that a suite holds -/
def rIsE1 (K : PySem.W.Frag) (D a : Addr) (cls : Value) (d : Option Addr) : List V → Hp → VK → Prop := fun xs H Q => ∃ (c : V) (cv : Value) (b : Bool), xs = [.ref a, c] ∧ cls = .ref D ∧ d = none ∧ (∀ u, RelV c u → u = cv) ∧ PySem.W.kitOne K (.ref D) cv = some b ∧ Q (.bl b) H
def rIsET (K : PySem.W.Frag) (D a : Addr) (cls : Value) (d : Option Addr) : List V → Hp → VK → Prop := fun xs H Q => ∃ (tp : Addr) (cs : List V) (us : List Value) (b : Bool), xs = [.ref a, .ref tp] ∧ cls = .ref D ∧ d = none ∧ H tp = some (.tup cs) ∧ Paired ClsV cs us ∧ PySem.W.kitAny K (.ref D) us = some b ∧ Q (.bl b) H
section
variable {X : Cx} {a D : Addr} {oe : Obj} {pn : List (Addr × Obj)} {cls : Value} {d : Option Addr}
theorem call_isE1 (C : ExcC X.K D) (hz : Zc cls d oe) (hf : ∃ vs, oe.data = .fields vs) : CallR (X.suite a ((a, oe) :: pn)) (.builtin "isinstance") (rIsE1 X.K D a cls d) := by
  intro pins s σ H xs us Q I r h
  obtain ⟨c, cv, b, e1, rfl, rfl, hcv, e, q⟩ := h
  exact call_isE C hz hf pins s σ H xs us Q I r ⟨c, cv, b, e1, hcv, e, q⟩
theorem call_isET (C : ExcC X.K D) (hz : Zc cls d oe) (hf : ∃ vs, oe.data = .fields vs) : CallR (X.suite a ((a, oe) :: pn)) (.builtin "isinstance") (rIsET X.K D a cls d) := by
  intro pins s σ H xs us Q I r h
  obtain ⟨tp, cs, ws, b, rfl, rfl, rfl, hT, k, e, q⟩ := h
  obtain ⟨u1, u2, rfl, r1, r2⟩ := vals2 r
  cases (show u1 = Value.ref a from r1)
  cases (show u2 = Value.ref tp from r2)
  obtain ⟨hget, _⟩ := I.pin (a, oe) (List.mem_append.mpr (.inl List.mem_cons_self))
  obtain ⟨vs, hv⟩ := hf
  have J : PySem.W.InstAt s.heap a oe D none := by
    obtain ⟨oc, od, oda, osl⟩ := oe
    obtain ⟨h1, h2⟩ := hz
    dsimp only at h1 h2 hv
    subst h1 h2 hv
    exact ⟨hget, rfl, rfl, trivial⟩
  obtain ⟨_, its, rv, o, h1, h2, n, h3⟩ := (show ObjOk X.prog X.w H s.heap tp (.tup cs) from I.hok tp _ hT)
  have e3 := ClsV.all k rv
  subst e3
  obtain ⟨oc, od, dt, sl⟩ := o
  simp only at h2 h3
  subst h2 h3
  exact PySem.W.kia_tup (PySem.W.handS_kitx_exc C.hg C.hk C.hs C.hd C.ha C.hn C.ht C.hm) I.kIn J h1 e (fun z => nomatch z) fun tk => ⟨.bl b, H, I.kept (t' := tk) fun _ _ z => z, rfl, q⟩
end

/-! ### small words -/
theorem same_new {H : Hp} {p : Addr} (h : H p = none) (o : HO) : Same H (upd H p o) := fun b u q => by rw [upd_ne (ne_of_none q h)]; exact q
theorem same_make {H : Hp} {x dx C : Addr} (nx : H x = none) (nd : H dx = none) : Same H (upd (upd H dx (.own x)) x (.ins C dx [])) := fun b o e => by
  rw [upd_ne (ne_of_none e nx), upd_ne (ne_of_none e nd)]
  exact e
theorem ite_no {c A B : Prop} [Decidable c] (hc : ¬ c) (h : B) : if c then A else B := by rw [if_neg hc]; exact h
theorem ite_yes {c A B : Prop} [Decidable c] (hc : c) (h : A) : if c then A else B := by rw [if_pos hc]; exact h
end Mine
set_option Elab.async false
set_option linter.all false
/-! Walks whose written part is named: a list, a tuple, either. -/
namespace Mine
open PySem PySem.Calls L2 PyProof.Rows
section
variable {X : Cx} {tg l : Expr} {tl : TE}
theorem pi_listK (K : PySem.W.Frag) (h : X.K = K) (hl : PE X l tl) : PI X tg l (iList K tl) := by subst h; exact pi_list hl
theorem pi_tupK (K : PySem.W.Frag) (h : X.K = K) (hl : PE X l tl) : PI X tg l (iTup K tl) := by subst h; exact pi_tup hl
noncomputable def iSeq (K : PySem.W.Frag) (tl : TE) : TI := fun σ H R => iList K tl σ H R ∨ iTup K tl σ H R
theorem pi_seqK (K : PySem.W.Frag) (h : X.K = K) (hl : PE X l tl) : PI X tg l (iSeq K tl) := by
  refine ⟨fun pins s σ H Q I h => ?_⟩
  rcases h with h | h
  · exact (pi_listK K ‹_› hl).run pins s σ H Q I h
  · exact (pi_tupK K ‹_› hl).run pins s σ H Q I h
end
end Mine
set_option Elab.async false
set_option linter.all false
set_option maxRecDepth 100000
set_option maxHeartbeats 2000000
/-! Set comprehensions whose elements are of any kind that a set's own `add` has a rule for. -/
namespace Mine
open PySem PySem.Spec PyProof.Rows L2 PpSet
/-- what a fresh set is, and what one more element asks of the value and the heap -/
structure Kind (P : Program) (w : World) where
  o0 : Addr → HO
  add : V → Hp → Addr → (Hp → Prop) → Prop
  new : ∀ (H : Hp) (h : Heap), ObjOk P w H (h.push { cls := .type "set", dict := none, data := .set #[] 0 (.fresh 0 0 (!w.params.followText "set-order")) }) h.objs.size (o0 h.objs.size)
  put : ∀ (Y : Cx), Y.prog = P → Y.w = w → ∀ {pins : List (Addr × Obj)} {σ : L2.St} {H : Hp} {s : Shared} {E : Value → Shared → Prop} {Q : Value → Shared → Prop} {D : Addr} {y : V} {z : Value} {N : Hp → Prop},
    Inv Y pins σ H s → RelV y z → add y H D N → (∀ H' s', Inv Y pins σ H' s' → N H' → Q .none s') → wpAny (model P w) Y.A (call (.builtin "set.add") [.ref D, z]) Q E s
noncomputable def tScG {P : Program} {w : World} (κ : Kind P w) (wi : TI) (g : TG) (tt : TT) (te : TE) (vs : List Nat) : TE := fun σ H Q => wi σ H fun J H1 => ∀ D, H1 D = none →
  ∃ W : Nat → Nat → Hp → Prop, (∃ m, W 0 m (upd H1 D (κ.o0 D))) ∧ ∀ i m H, W i m H → (J.stop i H ∧ Q (.ref D) H) ∨
    (J.go i H ∧ ∃ N : Hp → Prop, (∀ H', N H' → ∃ m', m' < m ∧ W (i + 1) m' H') ∧ ∀ x H', J.yld i H x H' → g x (wipe σ vs) H' fun τ H2 => wipe τ vs = wipe σ vs ∧ tt τ H2 fun b H3 =>
      if b = true then te τ H3 fun y H4 => κ.add y H4 D N else N H3)
section
variable {X : Cx}
theorem pe_scG (κ : Kind X.prog X.w) {elt tg iter : Expr} {ifs : List Expr} {scope : Scope} {own : List (PySem.Str × Nat)} {pos : Pos} {wi : TI} {g : TG} {tt : TT} {te : TE} (hc : X.calm = true) (hN : X.N.Nodup) (hi : PI X tg iter wi) (ok : BlkOk X.N X.env.scope scope own)
    (hg : ∀ (s : Shared) (H : Hp) (C : Addr) (cl : List (PySem.Str × Addr)) (fp : List Addr), PG (X.blk s H scope (compEnvC scope cl C X.env) fp) tg g)
    (ht : ∀ (s : Shared) (H : Hp) (C : Addr) (cl : List (PySem.Str × Addr)) (fp : List Addr), PTs (X.blk s H scope (compEnvC scope cl C X.env) fp) ifs tt)
    (he : ∀ (s : Shared) (H : Hp) (C : Addr) (cl : List (PySem.Str × Addr)) (fp : List Addr), PE (X.blk s H scope (compEnvC scope cl C X.env) fp) elt te)
    (hs : ∀ x, foldedSetIterable iter X.env x = pure x := by intro _; rfl) : PE X (.SetComp elt [⟨tg, iter, ifs, 0⟩] scope pos) (tScG κ wi g tt te (own.map (·.2))) := by
  refine ⟨fun pins s σ H Q I h => ?_⟩
  have free_ok : ∀ y ∈ scope.names, y.2 = .free → ∃ c, X.env.cells.lookup y.1 = some c := fun y hy e => (ok.free y hy e).elim (fun k => I.ok.has _ (.inl k)) (fun k => I.ok.has _ (.inr k))
  rw [eval_SetComp]
  refine wpAny_comprehension_free (use := none) rfl hs (closure_ok free_ok) ok.kind (fun y hy e => by rw [ok.uniq y hy, e]) (thn (hi.run pins s σ H _ I h) fun xv s1 hx => thn hx fun itv s2 w2 => ?_)
  obtain ⟨it, fp, tn, J, H2, e0, I2, T, st2, f2, q⟩ := w2
  subst e0
  refine newSet_ok (newEnv_comp ?_)
  generalize eD' : s2.heap.objs.size = D
  have eD := eD'.symm
  obtain ⟨W, ⟨m0, w0⟩, turn⟩ := q D (I2.hok.fresh (Nat.le_of_eq eD.symm))
  generalize es3' : ({ s2 with heap := s2.heap.push { cls := .type "set", dict := none, data := .set #[] 0 (.fresh 0 0 (!X.w.params.followText "set-order")) } } : Shared) = s3
  have es3 := es3'.symm
  obtain ⟨H3, eH3⟩ : ∃ H3, H3 = upd H2 D (κ.o0 D) := ⟨_, rfl⟩
  rw [← eH3] at w0
  have I3 : Inv X pins σ H3 s3 := by
    rw [es3, eH3]
    refine I2.laid (t' := s2.toks) (fun b o e => Heap.get?_push_of_some _ e) (Nat.le_of_eq eD.symm) ?_
    rw [← eD']
    exact κ.new _ _
  have h3 : s3.heap = s2.heap.push { cls := .type "set", dict := none, data := .set #[] 0 (.fresh 0 0 (!X.w.params.followText "set-order")) } := by rw [es3]
  have f3 : ∀ b ∈ fp, FpOk X pins H3 b ∧ b < s3.heap.objs.size := fun b hb => by
    obtain ⟨o, e, _⟩ := T.obj _ _ st2 b hb
    have lt := Heap.lt_size e
    refine ⟨⟨?_, (f2 b hb).2⟩, by rw [h3, Heap.size_push]; exact Nat.lt_succ_of_lt lt⟩
    rw [eH3, upd_ne (by rw [← eD']; exact Nat.ne_of_lt lt)]
    exact (f2 b hb).1
  have st3 : tn 0 s3.heap := T.keep _ _ _ st2 fun b _ o e => by rw [h3]; exact Heap.get?_push_of_some _ e
  have I4 := block_start I3 ok hN f3
  obtain ⟨ce, ece⟩ : ∃ ce, ce = compEnvC scope (cellsFrom (s3.heap.objs.size + 1) scope.names (cloFrom X.env.cells scope.names [])) s3.heap.objs.size X.env := ⟨_, rfl⟩
  have pg := hg s3 H3 s3.heap.objs.size (cellsFrom (s3.heap.objs.size + 1) scope.names (cloFrom X.env.cells scope.names [])) fp
  have pt := ht s3 H3 s3.heap.objs.size (cellsFrom (s3.heap.objs.size + 1) scope.names (cloFrom X.env.cells scope.names [])) fp
  have pe := he s3 H3 s3.heap.objs.size (cellsFrom (s3.heap.objs.size + 1) scope.names (cloFrom X.env.cells scope.names [])) fp
  have cL : ce.locals = s3.heap.objs.size := by rw [ece]; rfl
  rw [← ece] at I4 pg pt pe
  show codeAny _ _ (.compStart (.SetComp elt [⟨tg, iter, ifs, 0⟩] scope pos) 0 (.ref it) (.ref D) (compEnvC scope (cellsFrom (s3.heap.objs.size + 1) scope.names (cloFrom X.env.cells scope.names [])) s3.heap.objs.size X.env)) (compPost (model X.prog X.w) X.A X.xe none _ (.ref D) s3.heap.objs.size) { s3 with heap := pushCells (s3.heap.push { cls := .type "dict", data := .dict #[] }) scope.names }
  rw [← ece]
  obtain ⟨s4, es4⟩ : ∃ s4 : Shared, s4 = { s3 with heap := pushCells (s3.heap.push { cls := .type "dict", data := .dict #[] }) scope.names } := ⟨_, rfl⟩
  rw [← es4] at I4 ⊢
  have st4 : tn 0 s4.heap := T.keep _ _ _ st3 fun b _ o e => by rw [es4]; exact pushCells_keeps _ _ _ _ (Heap.get?_push_of_some _ e)
  have stat : ∀ {τ : L2.St} {H' : Hp} {s' : Shared}, Inv (X.blk s3 H3 scope ce fp) [] τ H' s' → (∀ b ∈ fp, H' b = none) → ∀ b ∈ fp, FpOk (X.blk s3 H3 scope ce fp) [] H' b := fun {τ H' s'} I' hn b hb =>
    ⟨hn b hb, (I'.ok.exf b hb).1, I'.ok.exfs b hb, .inl hb, fun x c e => (I'.ok.exf b hb).2 x c e, fun p hp => absurd (show p ∈ ([] : List (Addr × Obj)) ++ [] from hp) (by simp)⟩
  have loop : codeAny (model X.prog X.w) X.A (.compLoop (.SetComp elt [⟨tg, iter, ifs, 0⟩] scope pos) 0 (.ref it) (.ref D) ce) (compPost (model X.prog X.w) X.A X.xe none (EP X pins σ Q) (.ref D) s3.heap.objs.size) s4 := by
    refine compLoopS_any (fun n s' => ∃ i H', Inv (X.blk s3 H3 scope ce fp) [] (wipe σ (own.map (·.2))) H' s' ∧ tn i s'.heap ∧ (∀ b ∈ fp, H' b = none) ∧ W i n H') ?_ m0 ⟨0, H3, I4, st4, fun b hb => (f3 b hb).1.1, w0⟩
    rintro n s5 ⟨i, H5, I5, st5, n5, w5⟩
    rcases turn i n H5 w5 with ⟨stop, qq⟩ | ⟨go, N, hN', step⟩
    · refine thnF (T.done (X.blk s3 H3 scope ce fp) rfl rfl rfl hc i [] s5 _ H5 (fun _ _ => False) I5 (stat I5 n5) st5 stop) fun r s6 ⟨er, I6⟩ => ?_
      subst er
      have I7 : Inv X pins σ H5 s6 := I3.call' (ch := fp) I6.os I6.base I6.hok I6.bare fun b hb => by
        obtain ⟨⟨_, x1, x2, x3, x4, x5⟩, _⟩ := f3 b hb
        exact ⟨x3, x1, x4, x5⟩
      have nC : H5 s3.heap.objs.size = none := cL ▸ I6.free
      obtain ⟨m, hn, _⟩ := I6.loc
      have hn : s6.heap.Ns ce.locals m := hn
      rw [cL] at hn
      obtain ⟨y0, y1, y2, y3, y4, y5⟩ := I3.fpOk (Nat.le_refl _) nC
      exact ⟨m, hn, fun h'' sb => ⟨.ref D, H5, I7.turned (t' := s6.toks) (fun b o hb e => (sb.2 b hb).trans e) y0 y1 y3 y4 y5, rfl, qq⟩⟩
    · refine thnF (T.item (X.blk s3 H3 scope ce fp) rfl rfl rfl hc i [] s5 _ H5 (fun _ _ => False) I5 (stat I5 n5) st5 go) fun r s6 ⟨u, er, h6⟩ => ?_
      subst er
      refine thnF h6 fun _ s7 ⟨x, H7, I7, r7, y7, st7, n7⟩ => ?_
      refine thnF (pg.run _ s7 _ H7 x u _ (I7.pinned (stat I7 n7) (T.obj _ _ st7)) r7 (step x H7 y7)) fun _ s8 ⟨τ, H8, I8, hw8, q8⟩ => ?_
      refine thnF (pt.run _ s8 τ H8 _ I8 q8) fun b s9 ⟨H9, I9, q9⟩ => ?_
      have close : ∀ {s' : Shared} {H' : Hp}, Inv (X.blk s3 H3 scope ce fp) ([] ++ pinsAt fp s7.heap) τ H' s' → N H' → ∃ m, m < n ∧ ∃ i H', Inv (X.blk s3 H3 scope ce fp) [] (wipe σ (own.map (·.2))) H' s' ∧ tn i s'.heap ∧ (∀ b ∈ fp, H' b = none) ∧ W i m H' := fun {s' H'} I' nx => by
        obtain ⟨m', lt, w'⟩ := hN' H' nx
        have held : ∀ b ∈ fp, ∀ o, s7.heap.get? b = some o → s'.heap.get? b = some o ∧ H' b = none := fun b hb o e =>
          let z := I'.pin (b, o) (List.mem_append_right _ (List.mem_append_right _ (mem_pinsAt hb e)))
          ⟨z.1, z.2.1⟩
        refine ⟨m', lt, i + 1, H', (I'.unpinned (pins := [])).weak (by rw [← hw8, wipe_length]) (fun j v e => (wipe_some (hw8 ▸ e)).1), T.keep _ _ _ st7 fun b hb o e => (held b hb o e).1, fun b hb => ?_, w'⟩
        obtain ⟨o, e, _⟩ := T.obj _ _ st7 b hb
        exact (held b hb o e).2
      cases b with
      | false =>
        rw [if_neg Bool.false_ne_true] at q9 ⊢
        exact close I9 q9
      | true =>
        rw [if_pos rfl] at q9 ⊢
        exact thnF (pe.run _ s9 τ H9 _ I9 q9) fun z s10 ⟨yv, H10, I10, r10, a10⟩ => κ.put (X.blk s3 H3 scope ce fp) rfl rfl I10 r10 a10 fun H' s' I11 nx => close I11 nx
  exact codeAny_compStart_set loop (T.self X.A 0 _ _ _ st4 loop)
end
section
variable {P : Program} {w : World}
/-- a fresh set of ints and texts at a -/
theorem set0 (h : Heap) : (h.push { cls := .type "set", dict := none, data := .set #[] 0 (.fresh 0 0 (!w.params.followText "set-order")) }).SetOf (mixKind P w) h.objs.size (fun _ => false) 0 :=
  ⟨_, #[], 0, _, Heap.get?_push_size _ rfl, ⟨rfl, rfl, rfl⟩, rfl, (fun e he => by simp at he), (fun k => by simp), (by decide), (by rfl), rfl⟩
/-- sets of ints and texts -/
noncomputable def keyKind (P : Program) (w : World) : Kind P w where
  o0 := fun a => SetK P w a (fun _ => false) 0
  add := fun y H D N => ∃ (k : Key) (S : Key → Bool) (n : Nat), y = kV k ∧ H D = some (SetK P w D S n) ∧ n + 1 < scanBound ∧ N (upd H D (SetK P w D (fun j => S j || decide (j = k)) (if S k = true then n else n + 1)))
  new := fun H h => setK_new (set0 h)
  put := by
    rintro Y rfl rfl pins σ H s E Q D y z N I r ⟨k, S, n, rfl, hD, room, nx⟩ go
    refine call_set_add (kV_is r) (key_scan r) (setK_get I hD) room fun h' sb new => go _ _ (I.write (e := D) (t' := s.toks + 1) (by rw [hD]; trivial) (.inl rfl) (fun b u hb hu => (sb.2 b hb).trans hu) ?_ (setK_new new)) nx
    obtain ⟨o, _, _, _, ho, _⟩ := new
    exact ⟨o, ho⟩
end
section
variable {X : Cx}
/-- len of such a set -/
theorem call_len_setK : CallR X (.builtin "len") (fun xs H Q => ∃ (a : Addr) (S : Key → Bool) (n : Nat), xs = [.ref a] ∧ H a = some (SetK X.prog X.w a S n) ∧ n < 1000000 ∧ Q (.int (n : Nat)) H) := by
  intro pins s σ H xs us Q I r h
  obtain ⟨a, S, n, rfl, ha, hn, q⟩ := h
  obtain ⟨u, rfl, ru⟩ := vals1 r
  cases ru
  obtain ⟨o, es, ep, t, ho, hx, hd, h1, h2, h3, h4, h5⟩ := setK_get I ha
  subst h5
  refine call_len_set ho hx hd h4 (by omega) ⟨.int (es.size : Nat), H, I.kept (t' := s.toks + 1 + 1) fun _ _ z => z, ⟨_, rfl⟩, q⟩
end
/-- a walk that fills such a set -/
theorem scg_it {P : Program} {w : World} {κ : Kind P w} {J : It} {n : Nat} {G : Hp → Prop} {Y : Nat → Hp → V → Hp → Prop} (wk : Walk J n G Y) {g : TG} {tt : TT} {te : TE} {vs : List Nat} {σ : L2.St} {H1 : Hp} {D : Addr} {R : Hp → Prop} (Pv : Nat → Hp → Prop)
    (h0 : Pv 0 (upd H1 D (κ.o0 D))) (hG : ∀ i H, i ≤ n → Pv i H → G H)
    (hs : ∀ i x H H', i < n → Pv i H → Y i H x H' → g x (wipe σ vs) H' fun τ H2 => wipe τ vs = wipe σ vs ∧ tt τ H2 fun b H3 => if b = true then te τ H3 fun y H4 => κ.add y H4 D (Pv (i + 1)) else Pv (i + 1) H3) (hd : ∀ H, Pv n H → R H) :
    ∃ W : Nat → Nat → Hp → Prop, (∃ m, W 0 m (upd H1 D (κ.o0 D))) ∧ ∀ i m H, W i m H → (J.stop i H ∧ R H) ∨
      (J.go i H ∧ ∃ N : Hp → Prop, (∀ H', N H' → ∃ m', m' < m ∧ W (i + 1) m' H') ∧ ∀ x H', J.yld i H x H' → g x (wipe σ vs) H' fun τ H2 => wipe τ vs = wipe σ vs ∧ tt τ H2 fun b H3 =>
        if b = true then te τ H3 fun y H4 => κ.add y H4 D N else N H3) := by
  refine ⟨fun i m H => m = n - i ∧ i ≤ n ∧ Pv i H, ⟨n, rfl, Nat.zero_le _, h0⟩, ?_⟩
  rintro i m H ⟨rfl, hi, p⟩
  rcases Nat.lt_or_eq_of_le hi with lt | rfl
  · exact .inr ⟨wk.goes i H lt (hG i H hi p), Pv (i + 1), fun H' p' => ⟨n - (i + 1), by omega, rfl, lt, p'⟩, fun x H' y => hs i x H H' lt p (wk.yields i H x H' lt (hG i H hi p) y)⟩
  · exact .inl ⟨wk.stops H (hG _ H hi p), hd H p⟩
end Mine
set_option Elab.async false
set_option linter.all false
set_option maxRecDepth 100000
set_option maxHeartbeats 4000000
/-! A tuple times a number, also 0 and 1. -/
namespace Mine
open PySem PySem.Spec PyProof.Rows L2
theorem tuple_mul_zero (l : Addr) (items : Array Value) (n : Nat) (dd : Option Addr) (sl : Array (Option Value)) (u : Tok) (c1 : (items.isEmpty || (0 : Int) == 1) = false) :
    Meets (Builtin.«tuple.__mul__» ⟨[.ref l, .int 0 u], []⟩) (fun _ R s => s.heap.get? l = some { cls := .type "tuple", dict := dd, data := .seq items n, slots := sl } ∧
      R (.ok (.ret (Value.ref s.heap.objs.size))) { s with heap := s.heap.push { cls := Value.type "tuple", data := Data.seq #[] }, toks := s.toks }) :=
  .of_wp fun prog w A R s h => by
    obtain ⟨hp, g, d, tk, os⟩ := s
    obtain ⟨hl, h⟩ := h
    have f1 := AutoSeq1.idx_int
    wp_walk using wpAny_loadPart' hl
    repeat (first
      | (refine wpAny_ite_false (by decide) ?_; wp_walk using wpAny_loadPart' hl)
      | (refine wpAny_ite_false (decide_eq_false (by rw [c1]; exact Bool.false_ne_true)) ?_; wp_walk using wpAny_loadPart' hl))
    exact ⟨_, rfl, h⟩
theorem tuple_mul_one (l : Addr) (items : Array Value) (n : Nat) (dd : Option Addr) (sl : Array (Option Value)) (u : Tok) :
    Meets (Builtin.«tuple.__mul__» ⟨[.ref l, .int 1 u], []⟩) (fun _ R s => s.heap.get? l = some { cls := .type "tuple", dict := dd, data := .seq items n, slots := sl } ∧
      R (.ok (.ret (Value.ref l))) s) :=
  .of_wp fun prog w A R s h => by
    obtain ⟨hp, g, d, tk, os⟩ := s
    obtain ⟨hl, h⟩ := h
    have f1 := AutoSeq1.idx_int
    have c1 : (items.isEmpty || (1 : Int) == 1) = true := by rw [Bool.or_eq_true]; exact .inr rfl
    wp_walk using wpAny_loadPart' hl
    repeat (first
      | (refine wpAny_ite_false (by decide) ?_; wp_walk using wpAny_loadPart' hl)
      | (refine wpAny_ite_true (decide_eq_true c1) ?_; wp_walk using wpAny_loadPart' hl))
    exact ⟨_, rfl, h⟩
noncomputable def rRepA (K : PySem.W.Frag) : R2 := fun x y H Q => ∃ l k xs, x = .ref l ∧ y = .int k ∧ SqT K H l xs ∧ xs ≠ [] ∧ 0 ≤ k ∧ k ≤ 1000 ∧ xs.length ≤ 1000 ∧ ∀ p H', Same H H' → SqT K H' p (List.replicate k.toNat xs).flatten → Q (.ref p) H'
theorem op_repA {X : Cx} : OpR X (binaryOp .Mult) (rRepA X.K) := by
  intro pins s σ H x y v u Q I rx ry h
  obtain ⟨l, k, xs, rfl, rfl, hT, hne, h0, h2, hz, q⟩ := h
  by_cases h1 : 2 ≤ k
  · refine op_repT pins s σ H _ _ v u Q I rx ry ⟨l, k, xs, rfl, rfl, hT, hne, h1, h2, hz, fun p hp => q p _ (Gm.same_new hp _) (SqT.of upd_same)⟩
  cases rx
  obtain ⟨t, rfl⟩ := ry
  obtain ⟨its, r, ⟨⟨cls, dd, data, sl⟩, ho, hc, n, hd⟩, hs⟩ := I.tuple hT
  simp only at hc hd
  subst hc hd
  have hn : its ≠ [] := fun e => hne (by
    subst e
    cases r
    rfl)
  have c1 : (its.toArray.isEmpty || (0 : Int) == 1) = false := by
    cases its with
    | nil => exact absurd rfl hn
    | cons a b => rfl
  have k01 : k = 0 ∨ k = 1 := by omega
  rcases k01 with rfl | rfl
  · refine wpAny_binaryOp_repeat_ref (T := "tuple") (U := "int") (by decide) ⟨_, ho, rfl⟩ (fun s' => typeIs_int s' 0 t) noFill_tuple_mul F.fills_int_mul F.slot_int_rmul repeat_tuple F.slot_int_index.lookup
      (call_meets F.slot_int_rmul (typeIs_int s 0 t) F.entry_int_rmul (F.args_int_rmul_2 _ _) (int_rmul_tuple 0 t l its.toArray n dd sl)
        ⟨ho, rfl, ⟨_, ho, rfl⟩, call_meets F.slot_tuple_mul ⟨_, ho, rfl⟩ F.entry_tuple_mul (F.args_tuple_mul_2 _ _) (tuple_mul_zero l its.toArray n dd sl t c1) ⟨ho, ?_⟩⟩)
    have fr := I.hok.fresh (Nat.le_refl _)
    refine ⟨.ref s.heap.objs.size, _, I.laid (t' := s.toks) (o := .tup []) (fun b ob q => Heap.get?_push_of_some _ q) (Nat.le_refl _) ?_, rfl, q _ _ (Gm.same_new fr _) (SqT.of upd_same)⟩
    exact ⟨by decide, [], .nil, IsTup.new _ _⟩
  · refine wpAny_binaryOp_repeat_ref (T := "tuple") (U := "int") (by decide) ⟨_, ho, rfl⟩ (fun s' => typeIs_int s' 1 t) noFill_tuple_mul F.fills_int_mul F.slot_int_rmul repeat_tuple F.slot_int_index.lookup
      (call_meets F.slot_int_rmul (typeIs_int s 1 t) F.entry_int_rmul (F.args_int_rmul_2 _ _) (int_rmul_tuple 1 t l its.toArray n dd sl)
        ⟨ho, rfl, ⟨_, ho, rfl⟩, call_meets F.slot_tuple_mul ⟨_, ho, rfl⟩ F.entry_tuple_mul (F.args_tuple_mul_2 _ _) (tuple_mul_one l its.toArray n dd sl t) ⟨ho, ?_⟩⟩)
    refine ⟨.ref l, H, I, rfl, q _ _ (Same.refl _) ?_⟩
    show SqT X.K H l (xs ++ [])
    rw [List.append_nil]
    exact hT
end Mine
set_option Elab.async false
set_option linter.all false
set_option maxRecDepth 100000
set_option maxHeartbeats 4000000
/-! An own error under ValueError whose __init__ begins with super().__init__(e): its __init__ as a def that keeps a promise (pmk_oex makes of it the rule of C(e, ..)). -/
namespace Mine
open PySem PySem.Calls L2 NdefX PyProof.Rows
section
variable {X : Cx} {pins : List (Addr × Obj)} {σ : L2.St} {H : Hp} {s : Shared} {A : Around} {E : Value → Shared → Prop}
/-- the built-in __init__, bound to an exception that is being made, is called -/
theorem call_mw {a C u : Addr} {us : List Value} {Q : Value → Shared → Prop} (T : OexC X.K C) (I : Inv X pins σ H s) (e : H a = some (exo a C none)) (hu : s.heap.get? u = some (PySem.W.kxs_mw "ValueError.__init__" a)) (hl : us.length ≤ sizeLine)
    (h : ∀ s', Inv X pins σ H s' → Q .none s') : wpAny (model X.prog X.w) A (call (.ref u) us) Q E s := by
  obtain ⟨nm, q, N, bs, bm, sn, sub, ab, col, dd, k0, k1, k2, k3, k5, hC, hbm⟩ := T.cls
  obtain ⟨t1, ho⟩ := exo_at I.hok e
  have hCh := I.kIn _ _ hC
  obtain ⟨hp, g, d, t, os⟩ := s
  refine wpAny_call (codeAny_of_tree ?_)
  show wpAny _ A.in1 (callAny (.ref u) ⟨us, []⟩) _ _ _
  simp only [callAny]
  refine wpAny_bind (wpAny_load hu ?_)
  simp only [PySem.W.kxs_mw, show (Value.type "method-wrapper" == Value.type "method" || Value.type "method-wrapper" == Value.type "builtin_function_or_method" || Value.type "method-wrapper" == Value.type "method-wrapper") = true by decide, if_true]
  refine PySem.W.KFB.if_so (by decide) ?_
  refine wpAny_bind (PySem.W.check_bound_init F.excBase_ValueError.toExcCallFacts hCh ho rfl ?_)
  refine wpAny_bind (wpAny_pure (wpAny_pure ?_))
  refine ⟨plainId_quiet F.excBase_ValueError.init.plain _, codeAny_builtin F.excBase_ValueError.initEntry ?_⟩
  refine PySem.W.exc_init_tree (cls := .ref C) (t0 := t1) (dv := none) (c2 := .none) (c3 := .none) (b4 := .bool false) ho hl fun h' k hx _ => ?_
  have J := I.write (t' := t) (x := a) (e := a) (o := exo a C none) (by rw [e]; exact True.intro) (.inl rfl) k ⟨_, hx⟩ (exo_ok hx)
  have eu : upd H a (exo a C none) = H := by
    funext b
    by_cases hb : b = a
    · rw [hb, upd_same, e]
    · rw [upd_ne hb]
  rw [eu] at J
  exact h _ J
end
section
variable {CX : CXT} {P : Program} {w : World} {K : PySem.W.Frag} {mg : Str → Option Value} {base : Heap} {k : Nat} {f cda cc D : Addr} {name qual self : Str} {params : Arguments} {scope : Scope} {dV kV doc pm ct oc ccl cl : Value} {an od cdd cld : Option Addr}
  {osl ccs csl : Array (Option Value)} {vs0 : Array Value} {file : Str} {tf : Tok} {N ps0 : List Str} {sp : Sp} {p0 p1 p2 p3 p4 : Pos} {arg : Expr} {rest : List Stmt} {ar : Arg} {cdD : ClassData}
theorem one_look {n y : Str} {c0 c : Addr} (h : ([(n, c0)] : List (Str × Addr)).lookup y = some c) : y = n ∧ c = c0 := by
  unfold List.lookup at h
  split at h
  · rename_i e
    exact ⟨eq_of_beq e, (Option.some.inj h).symm⟩
  · cases h
/-- what the written part says of such an __init__ -/
structure SupIn (K : PySem.W.Frag) (D cda cc : Addr) : Prop where
  code : ∃ ccl cdd vs0 ccs file tf, K.lookup cda = some (⟨ccl, cdd, .fields vs0, ccs⟩ : Obj) ∧ vs0[2]? = some (Value.str file tf)
  cell : ∃ cl cld csl, K.lookup cc = some (⟨cl, cld, .cell (some (.ref D)), csl⟩ : Obj)
  any : PySem.W.nsIn K cStatics "thirdparty.any" = some none
  sup : PySem.W.ks_superIn K D D "__init__" = some (some (.builtin "ValueError.__init__"))
  subV : PySem.W.subIn K (.ref D) (.type "ValueError") = some true
  mro : PySem.W.mroIn K D (.ref D) = some true
theorem fn_super (lk : K.lookup f = some ⟨oc, od, .func (PySem.W.ksFn name qual params (.Expr (.Call (.Attribute (.Call (.Name "super" p0) [] [] p1) "__init__" p2) [arg] [] p3) p4 :: rest) scope dV kV doc pm an (.ref cda) ct cc), osl⟩)
    (hcd : PySem.W.codeIn K (.ref cda) qual = true) (S : NScope N (self :: ps0) ["__class__"] scope) (TO : OexC K D)
    (hcode : K.lookup cda = some ⟨ccl, cdd, .fields vs0, ccs⟩) (hvs : vs0[2]? = some (.str file tf)) (hfile : ((P.main.file : Str) == file) = true)
    (hcell : K.lookup cc = some ⟨cl, cld, .cell (some (.ref D)), csl⟩) (any : PySem.W.nsIn K cStatics "thirdparty.any" = some none)
    (sup : PySem.W.ks_superIn K D D "__init__" = some (some (.builtin "ValueError.__init__"))) (subV : PySem.W.subIn K (.ref D) (.type "ValueError") = some true) (mro : PySem.W.mroIn K D (.ref D) = some true)
    (hpar : (params.posonlyargs ++ params.args).head? = some ar) (har : ar.arg = self) (hks : scope.names.lookup ("super" : Str) = some .globalImplicit) (htop : (P.main.scope.names.lookup ("super" : Str)).isSome = false) (hsuper : mg "super" = none)
    (he : ∀ env, starEach [arg] env = [(false, eval arg env)] := by intro _; rfl) (hsw : ∀ L, swapsWith (.Call (.Attribute (.Call (.Name "super" p0) [] [] p1) "__init__" p2) [arg] [] p3) none p4.line (PySem.W.ksEnv qual scope L f (.ref cda) cc) = pure false := by intro _; rfl)
    {pl : Env → Sem Bool} (hev : ∀ env, eval (.Call (.Attribute (.Call (.Name "super" p0) [] [] p1) "__init__" p2) [arg] [] p3) env = (do
      let ov ← attributeBase (.Call (.Name "super" p0) [] [] p1) "__init__" env (eval (.Call (.Name "super" p0) [] [] p1) env)
      standAt p2.atName
      let (f, first) ← holding [ov] (getMethod ov "__init__" (pl env))
      callWith p3 f first (backTo p3 (starEach [arg] env)) []) := by intro _; rfl)
    (len : ∀ vs H Q E, sp vs H Q E → vs.length = (self :: ps0).length)
    (hbody : ∀ (A : Around) (outer : List Env) (s : Shared) (H : Hp) (vs : List V) (Q : VK) (E : XK), Room k (A.deeper (PySem.W.ksEnv qual scope s.heap.objs.size f (.ref cda) cc)) → sp vs H Q E →
      ∃ (a : Addr) (vr : List V) (ta : TA) (t : TS), vs = .ref a :: vr ∧ H a = some (exo a D none) ∧
        PA (ncx CX P w K mg base N ⟨name, qual, params, .Expr (.Call (.Attribute (.Call (.Name "super" p0) [] [] p1) "__init__" p2) [arg] [] p3) p4 :: rest, scope, [("__class__", cc)], cda⟩ f A outer s H E) [arg] ta ∧
        PSs (ncx CX P w K mg base N ⟨name, qual, params, .Expr (.Call (.Attribute (.Call (.Name "super" p0) [] [] p1) "__init__" p2) [arg] [] p3) p4 :: rest, scope, [("__class__", cc)], cda⟩ f A outer s H E) rest t ∧
        ta (startF N vs [none]) H fun ws H1 => ws.length ≤ 1000 ∧ H1 a = some (exo a D none) ∧ t { nx := fun _ H' => Q .non H', rt := Q } (startF N vs [none]) H1) :
    FnOk P w K mg base CX (k + 1) f (PySem.W.ksFn name qual params (.Expr (.Call (.Attribute (.Call (.Name "super" p0) [] [] p1) "__init__" p2) [arg] [] p3) p4 :: rest) scope dV kV doc pm an (.ref cda) ct cc) (self :: ps0) sp := by
  refine ⟨len, fun A outer s H args us vs Q E hr e0 hb r hsp => ?_⟩
  have hl := len _ _ _ _ hsp
  have KX : K.In s.heap := e0.mod.kin.keeps fun b o e => (e0.bs b o e).1
  have lim : s.heap.NoLimit := e0.mod.nolimit.keeps fun b o e => (e0.bs b o e).1
  refine PySem.ks_codeAny_call_defAt hr.depth (KX _ _ lk) rfl lim (PySem.W.codeRec_of KX hcd) rfl hb (fun x hx => S.nocell x hx) (fun ⟨n, v⟩ hy => S.par n (List.of_mem_zip hy).1) (fun h₁ hns kp => ?_) S.co S.gen S.kind
  obtain ⟨a, vr, ta, t, ev, ea, hA, hS, hta⟩ := hbody A outer s H vs Q E (hr.deeper _) hsp
  have C : CellsAt [("__class__", cc)] ["__class__"] [none] s.heap H := by
    have cb := e0.bs _ _ (e0.mod.kin _ _ hcell)
    refine ⟨rfl, fun y c e => ?_, fun x y c e1 e2 => ?_, fun i y e => ?_⟩
    · obtain ⟨_, rfl⟩ := one_look e
      exact ⟨cb.2, _, _, cb.1, rfl⟩
    · rw [(one_look e1).1, (one_look e2).1]
    · cases i with
      | zero =>
        have : y = "__class__" := (Option.some.inj e).symm
        subst this
        exact ⟨cc, rfl, fun v z => by cases z⟩
      | succ i => simp at e
  have I := inv_startN (F := ⟨name, qual, params, .Expr (.Call (.Attribute (.Call (.Name "super" p0) [] [] p1) "__init__" p2) [arg] [] p3) p4 :: rest, scope, [("__class__", cc)], cda⟩) (f := f) (CX := CX) (E := E) (tk := s.toks + ((self :: ps0).zip us).length) S hr.hd e0 hl r C hns kp
  have hN0 : N[0]? = some self := by
    have q := S.pre
    cases N with
    | nil => simp at q
    | cons n N' =>
      have q2 : n :: N'.take (ps0.length + 1) = self :: (ps0 ++ [("__class__" : Str)]) := q
      exact congrArg some (List.cons.inj q2).1
  have hself : ∃ m, h₁.Ns s.heap.objs.size m ∧ m self = some (.ref a) := by
    obtain ⟨m, hn, hlk⟩ := I.loc
    obtain ⟨u, ru, L⟩ := hlk 0 self (.ref a) hN0 (by subst ev; rfl) (.inl (S.par self List.mem_cons_self))
    obtain rfl : u = .ref a := ru
    rcases L with ⟨_, e⟩ | ⟨z | z, _⟩
    · exact ⟨m, hn, e⟩
    · have := S.par self List.mem_cons_self
      rw [show scope.names.lookup self = some .cell from z] at this
      cases this
    · have := S.par self List.mem_cons_self
      rw [show scope.names.lookup self = some .free from z] at this
      cases this
  obtain ⟨m, hm, hms⟩ := hself
  obtain ⟨mb, b1, b2⟩ := I.mod.blt
  obtain ⟨nm, q, NN, bs, bm, sn, sub, ab, col, dd, k0, k1, k2, k3, k5, hC, hbm⟩ := TO.cls
  have hDc : PySem.W.clsIn K D = some { name := nm, bases := bs, mro := .ref D :: bm, ns := NN, qualname := q, hasDict := true, slotNames := sn, subclasses := sub, abstract := ab, collection := col, hasDel := false } := by unfold PySem.W.clsIn; rw [hC] <;> rfl
  obtain ⟨t1, ho⟩ := exo_at I.hok ea
  have KH := I.kIn
  have hkc : scope.names.lookup ("__class__" : Str) = some .free := S.frk _ (List.mem_singleton.mpr rfl)
  have hint : ∀ L, interactive (PySem.W.ksEnv qual scope L f (.ref cda) cc) = false := fun L => by
    unfold interactive
    rw [show (PySem.W.ksEnv qual scope L f (.ref cda) cc).scope.kind = .function from S.kind]
    rfl
  refine PySem.ks_wpAt_execs_cons (PySem.ks_wpAt_Expr_any (PySem.ks_wpAt_MethodCall ?_ (hev _)) (hint _) (hsw _))
  refine PySem.ks_wpAt_super_base (ar := ar) hks hkc (by decide) rfl (KH _ _ lk) rfl hpar rfl (KH _ _ hcode) rfl hvs hfile htop ?_
  refine PySem.W.ks_loadName_global S.kind hks (Calls.loadGlobal_builtin (I.mod.glob.keeps I.bk) hsuper (b1.keeps I.bk) ((b2 "super" (by decide)).trans (by decide +kernel)) ⟨rfl, ?_⟩)
  refine wpAny_loadName_free S.kind hkc rfl ⟨_, KH _ _ hcell, rfl⟩ ?_
  refine wpAny_loadName_local S.kind (show scope.names.lookup ar.arg = some .local by rw [har]; exact S.par self List.mem_cons_self) hm (by rw [har]; exact hms) ?_
  refine PySem.ks_wpAny_isType_cls (KH _ _ hC) rfl ⟨rfl, ?_⟩
  refine PySem.ks_wpAny_call_super (KH _ _ hC) rfl ho rfl (fun c e => by cases e) (PySem.W.looks_mroIn KH mro) (fun h' e2 k2 => ?_)
  have I2 := I.kept (t' := s.toks + ((self :: ps0).zip us).length) k2
  obtain ⟨t2, ho2⟩ := exo_at I2.hok ea
  have IA : PySem.W.InstAt h' a ({ cls := .ref D, dict := none, data := .fields #[.ref t2, .none, .none, .none, .bool false, .none] } : Obj) D none := ⟨ho2, rfl, rfl, trivial⟩
  have KH2 : K.In h' := I2.kIn
  have supA : PySem.W.alongIn K "__init__" (((Value.ref D :: bm).dropWhile (· != .ref D)).drop 1) = some (some (.builtin "ValueError.__init__")) := by
    have z := sup
    unfold PySem.W.ks_superIn at z
    rw [hDc] at z
    exact z
  refine PySem.W.kxs_getMethod PySem.W.kxs_ValueError e2 (PySem.W.looks_opaque KH2 any) (l₀ := Value.ref D :: bm) (fun A Q E s k q => wpAny_bind ((PySem.W.looks_clsIn KH2 hDc) A _ E s k (wpAny_pure q))) rfl KH2 supA (IA.type.andThen (PySem.W.looks_subIn KH2 subV)) (PySem.W.ks_ne KH2 IA hDc) (by decide) ?_
  have I3 := I2.kept (h' := h'.push (PySem.W.kxs_mw "ValueError.__init__" a)) (t' := s.toks + ((self :: ps0).zip us).length + 1) (fun b u e => Heap.get?_push_of_some _ e)
  have I4 := I3.pins_of (pins' := [(h'.objs.size, PySem.W.kxs_mw "ValueError.__init__" a)]) (fun p hp => by
    obtain rfl : p = (h'.objs.size, PySem.W.kxs_mw "ValueError.__init__" a) := List.mem_singleton.mp hp
    exact ⟨Heap.get?_push_at rfl rfl, I2.hok.fresh (Nat.le_refl _), fun z => absurd I2.lt (by rw [← z]; exact Nat.lt_irrefl _), I2.nofs (Nat.le_refl _), fun v z => by cases z⟩)
  have hA4 := hA.run p3 _ _ _ _ _ I4 hta
  rw [he] at hA4 ⊢
  refine PySem.W.kxs_callWith (i := "ValueError.__init__") (x := a) rfl ?_
  refine evalArgs_plain (thn hA4 fun us4 s4 ⟨ws, H1, I5, r5, hz, ea5, ht⟩ => ⟨(I5.pin _ (List.mem_append_right _ (List.mem_singleton.mpr rfl))).1, ?_⟩)
  have hlen : us4.length ≤ sizeLine := by
    rw [← Paired.length r5, sizeLine_eq]
    omega
  refine call_mw TO I5 ea5 (I5.pin _ (List.mem_append_right _ (List.mem_singleton.mpr rfl))).1 hlen fun s5 J => ?_
  refine wpAt_of_wpAny (wpAny_mono (hS.run _ s5 _ _ _ J ht) (fun fl s' hs => ?_) fun e s' hs => hs)
  have fin : ∀ {σ' : L2.St} {H' : Hp} {v : V} {u : Value} {pn : List (Addr × Obj)}, Inv (ncx CX P w K mg base N ⟨name, qual, params, .Expr (.Call (.Attribute (.Call (.Name "super" p0) [] [] p1) "__init__" p2) [arg] [] p3) p4 :: rest, scope, [("__class__", cc)], cda⟩ f A outer s H E) pn σ' H' s' → L2.RelV v u → Q v H' → CE outer P w H s Q u s' :=
    fun {σ' H' v u pn} J rv q => ⟨v, H', J.os, J.bare, J.base, J.hok, rv, q⟩
  cases fl with
  | ret u =>
    obtain ⟨v, σ', H', J, rv, q⟩ := hs
    exact fin J rv q
  | next =>
    obtain ⟨σ', H', J, q⟩ := hs
    exact fin (v := V.non) (u := Value.none) J rfl q
  | brk =>
    obtain ⟨_, _, _, q⟩ := hs
    exact False.elim q
  | cont =>
    obtain ⟨_, _, _, q⟩ := hs
    exact False.elim q
end
end Mine
set_option Elab.async false
set_option linter.all false
set_option maxRecDepth 100000
set_option maxHeartbeats 4000000
/-! class E(..): def __init__(self, x): super().__init__(f"..{x}.."); self.f = x, E under ValueError: C(e) as a rule. -/
namespace Mine
open PySem PySem.Calls L2 NdefX PyProof.Rows
structure ErrF (K : PySem.W.Frag) (mg : Str → Option Value) (C f : Addr) (fd : FuncData) (qual : Str) (st : Stmt) (file fld : Str) : Prop where
  ex : ∃ (oc : Value) (od : Option Addr) (osl : Array (Option Value)) (dV kV doc pm : Value) (an : Option Addr) (cda : Addr) (ct : Value) (cc : Addr) (ccl : Value) (cdd : Option Addr) (ccs : Array (Option Value)) (vs0 : Array Value) (tf : Tok) (cl : Value) (cld : Option Addr) (csl : Array (Option Value)),
    fd = PySem.W.ksFn "__init__" qual (defArgs st) (defBody st) (defScope st) dV kV doc pm an (.ref cda) ct cc ∧ K.lookup f = some ⟨oc, od, .func fd, osl⟩ ∧ PySem.W.codeIn K (.ref cda) qual = true ∧
    K.lookup cda = some ⟨ccl, cdd, .fields vs0, ccs⟩ ∧ vs0[2]? = some (.str file tf) ∧ K.lookup cc = some ⟨cl, cld, .cell (some (.ref C)), csl⟩
  any : PySem.W.nsIn K cStatics "thirdparty.any" = some none
  sup : PySem.W.ks_superIn K C C "__init__" = some (some (.builtin "ValueError.__init__"))
  subV : PySem.W.subIn K (.ref C) (.type "ValueError") = some true
  mro : PySem.W.mroIn K C (.ref C) = some true
  T : OexC K C
  iC : PySem.W.findIn K (.ref C) "__init__" = some (some (.ref f))
  tI : PySem.W.typeIn K (.ref f) = some (.type "function")
  no : PySem.W.findIn K (.ref C) fld = some none
  z : mg "super" = none
/-- the program's own file -/
def PrF (P : Program) (file : Str) : Prop := ((P.main.file : Str) == file) = true ∧ (P.main.scope.names.lookup ("super" : Str)).isSome = false
theorem len_app {a b : Str} {m n : Nat} (ha : a.length ≤ m) (hb : b.length ≤ n) : (a ++ b).length ≤ m + n := by rw [Str.length_append]; exact Nat.add_le_add ha hb
theorem int_len {i : Int} (hi : i.natAbs < 2 ^ 64) : (Str.ofString (toString i)).length ≤ 65 ∧ i.natAbs.log2 < 1920 := by
  have h := PySem.Flt.log2_lt_of (k := 64) (by decide) hi
  refine ⟨?_, Nat.lt_of_lt_of_le h (by decide)⟩
  rw [PySem.ofString_length]
  exact int_text_length_le (k := 64) (by decide) h
theorem emp_len : Str.empty.length ≤ 0 := by decide +kernel
section
variable {a b : Str} {σ : L2.St} {H : Hp} {Q : VK}
theorem js_I3 {i : Int} (ha : a.length ≤ 1000) (hb : b.length ≤ 1000) (e : σ[1]? = some (some (.int i))) (hi : i.natAbs < 2 ^ 64) (q : ∀ t : Str, Q (.str t) H) :
    tJs [tC (.str a), tFmt (tVar 1), tC (.str b)] Str.empty σ H fun out H1 => Q (.str out) H1 := by
  have l1 := len_app emp_len ha
  have l2 := len_app l1 (int_len hi).1
  have l3 := len_app l2 hb
  exact ⟨_, rfl, Nat.le_trans l1 (by decide), _, e, .inr ⟨i, rfl, (int_len hi).2, _, rfl, Nat.le_trans l2 (by decide), _, rfl, Nat.le_trans l3 (by decide), q _⟩⟩
theorem js_S3 {y : Str} (ha : a.length ≤ 1000) (hb : b.length ≤ 1000) (e : σ[1]? = some (some (.str y))) (hi : y.length ≤ 1000) (q : ∀ t : Str, Q (.str t) H) :
    tJs [tC (.str a), tFmt (tVar 1), tC (.str b)] Str.empty σ H fun out H1 => Q (.str out) H1 := by
  have l1 := len_app emp_len ha
  have l2 := len_app l1 hi
  have l3 := len_app l2 hb
  exact ⟨_, rfl, Nat.le_trans l1 (by decide), _, e, .inl ⟨y, rfl, Nat.le_trans hi (by decide), _, rfl, Nat.le_trans l2 (by decide), _, rfl, Nat.le_trans l3 (by decide), q _⟩⟩
theorem js_S2 {y : Str} (ha : a.length ≤ 1000) (e : σ[1]? = some (some (.str y))) (hi : y.length ≤ 1000) (q : ∀ t : Str, Q (.str t) H) :
    tJs [tC (.str a), tFmt (tVar 1)] Str.empty σ H fun out H1 => Q (.str out) H1 := by
  have l1 := len_app emp_len ha
  have l2 := len_app l1 hi
  exact ⟨_, rfl, Nat.le_trans l1 (by decide), _, e, .inl ⟨y, rfl, Nat.le_trans hi (by decide), _, rfl, Nat.le_trans l2 (by decide), q _⟩⟩
end
/-- what such an __init__ promises -/
def spErr (D : Addr) (fld : Str) (ok : V → Prop) : Sp := fun vs H Q _ => ∃ (a : Addr) (y : V), vs = [.ref a, y] ∧ H a = some (exo a D none) ∧ ok y ∧ ∀ dx, H dx = none → dx ≠ a → Q .non (upd (upd H dx (exd dx [(fld, y)])) a (exo a D (some dx)))
section
variable {P : Program} {w : World} {K : PySem.W.Frag} {mg : Str → Option Value} {base : Heap} {k : Nat} {C f : Addr} {fd : FuncData} {qual file fld x : Str} {st : Stmt} {p0 p1 p2 p3 p4 a1 a2 a3 a4 : Pos} {arg : Expr} {ar : Arg} {targ : TE} {ok : V → Prop}
theorem err_ok (F : ErrF K mg C f fd qual st file fld) (hfile : ((P.main.file : Str) == file) = true) (htop : (P.main.scope.names.lookup ("super" : Str)).isSome = false)
    (hb : defBody st = [.Expr (.Call (.Attribute (.Call (.Name "super" p0) [] [] p1) "__init__" p2) [arg] [] p3) p4, .Assign [.Attribute (.Name "self" a1) fld a2] (.Name x a3) a4])
    (S : NScope [("self" : Str), x, "__class__"] [("self" : Str), x] ["__class__"] (defScope st)) (hpar : ((defArgs st).posonlyargs ++ (defArgs st).args).head? = some ar) (har : ar.arg = "self") (hks : (defScope st).names.lookup ("super" : Str) = some .globalImplicit)
    (he : ∀ env, starEach [arg] env = [(false, eval arg env)]) (hsw : ∀ env, swapsWith (.Call (.Attribute (.Call (.Name "super" p0) [] [] p1) "__init__" p2) [arg] [] p3) none p4.line env = pure false)
    {pl : Env → Sem Bool} (hev : ∀ env, eval (.Call (.Attribute (.Call (.Name "super" p0) [] [] p1) "__init__" p2) [arg] [] p3) env = (do
      let ov ← attributeBase (.Call (.Name "super" p0) [] [] p1) "__init__" env (eval (.Call (.Name "super" p0) [] [] p1) env)
      standAt p2.atName
      let (f, first) ← holding [ov] (getMethod ov "__init__" (pl env))
      callWith p3 f first (backTo p3 (starEach [arg] env)) []))
    (hsw2 : ∀ env, swapsWith (.Name x a3) (some (.Attribute (.Name "self" a1) fld a2)) a4.line env = pure false)
    (hx : (x == ("__debug__" : Str)) = false) (hx2 : (x == ("__classdict__" : Str)) = false)
    (harg : ∀ X : Cx, X.N = [("self" : Str), x, "__class__"] → X.env.scope = defScope st → PE X arg targ)
    (htarg : ∀ (σ : L2.St) (H : Hp) (y : V) (Q : VK), σ[1]? = some (some y) → ok y → (∀ t : Str, Q (.str t) H) → targ σ H Q) :
    FnOk P w K mg base CX0 (k + 1) f fd [("self" : Str), x] (spErr C fld ok) := by
  obtain ⟨oc, od, osl, dV, kV, doc, pm, an, cda, ct, cc, ccl, cdd, ccs, vs0, tf, cl, cld, csl, efd, lk, hcd, hcode, hvs, hcell⟩ := F.ex
  rw [hb] at efd
  subst efd
  refine fn_super lk hcd S F.T hcode hvs hfile hcell F.any F.sup F.subV F.mro hpar har hks htop F.z he (fun _ => hsw _) hev (fun vs H Q E ⟨a, y, e, _⟩ => by rw [e]; rfl) (fun A outer s H vs Q E hr h => ?_)
  obtain ⟨a, y, e, ea, oy, q⟩ := h
  subst e
  have vx : ∀ z : Str, z ∈ [("self" : Str), x] → Vis (defScope st) z := fun z hz => .inl (S.par z hz)
  refine ⟨a, [y], _, _, rfl, ea, pa_cons (harg _ rfl rfl) pa_nil (by rw [he] <;> first | rfl | simp [starEach]), pss_one (ps_ost (pe_var (i := 0) rfl (vx _ List.mem_cons_self)) (pe_var (i := 1) rfl (vx _ (List.mem_cons_of_mem _ List.mem_cons_self)) hx hx2) (hsw2 _)), ?_⟩
  refine htarg _ _ y _ rfl oy fun t => ?_
  show _ ∧ _
  refine ⟨by simp, ea, y, rfl, .ref a, rfl, a, C, rfl, F.T, F.no, .inl ⟨ea, fun dx hn hd => q dx hn hd⟩⟩
/-- C(e) -/
def tErr (C : Addr) (fld : Str) (ok : V → Prop) (ta : TA) : L2.St → Hp → XK → Prop := fun σ H Q => ta σ H fun vs H1 => ∃ y, vs = [y] ∧ ok y ∧ ∀ d, H1 d = none → Q (.ref C) (some d) (upd H1 d (.xd [(fld, y)]))
theorem pmk_err {X : Cx} {nm : Str} {e : Expr} {es : List Expr} {ta : TA} {p pos : Pos} (F : ErrF X.K X.mg C f fd qual st file fld) (G : FnOk X.prog X.w X.K X.mg X.base CX0 k f fd [("self" : Str), x] (spErr C fld ok)) (hb : Binds X.K fd [("self" : Str), x] [])
    (hr : Room (k + 1) X.A) (hg : Gl X nm) (hm : X.mg nm = some (.ref C)) (ha : PA X (e :: es) ta)
    (hdb : (nm == ("__debug__" : Str)) = false := by decide) (he : starEach (e :: es) X.env = (false, eval e X.env) :: starEach es X.env := by rfl) (hpl : (backTo pos (starEach es X.env)).any (·.1) = false := by rfl) :
    PMk X (.Call (.Name nm p) (e :: es) [] pos) (tErr C fld ok ta) := by
  intro pins s σ H Q I h
  have ha' : PA X (e :: es) (fun σ H Q => ∃ Q', ta σ H Q' ∧ ∀ vs H1, Q' vs H1 → Q vs H1) := ⟨fun pos pins s σ H Q I ⟨Q', q, m⟩ => thn (ha.run pos pins s σ H Q' I q) fun us s1 ⟨vs, H1, J, r, z⟩ => ⟨vs, H1, J, r, m _ _ z⟩⟩
  refine pmk_oex F.T F.iC F.tI G hr hb .nil pass0 hg hm ha' hdb he hpl pins s σ H Q I ⟨_, h, fun vs H1 z => ?_⟩
  obtain ⟨y, rfl, oy, q⟩ := z
  refine ⟨by simp, fun a hna => ?_⟩
  show spErr C fld ok [.ref a, y] _ _ _
  refine ⟨a, y, rfl, upd_same, oy, fun dx hd hn => ⟨rfl, dx, [(fld, y)], upd_same, ?_, ?_, ?_⟩⟩
  · rw [upd_ne hn, upd_same]
  · rw [upd_ne hn] at hd
    exact hd
  · rw [upd_ne hn] at hd
    have e : upd (del (upd (upd (upd H1 a (exo a C none)) dx (exd dx [(fld, y)])) a (exo a C (some dx))) a) dx (.xd [(fld, y)]) = upd H1 dx (.xd [(fld, y)]) := by
      funext b
      by_cases h1 : b = dx
      · rw [h1, upd_same, upd_same]
      · rw [upd_ne h1, upd_ne h1]
        by_cases h2 : b = a
        · rw [h2, del_same, hna]
        · rw [del_ne h2, upd_ne h2, upd_ne h1, upd_ne h2]
    rw [e]
    exact q dx hd
end
end Mine
set_option Elab.async false
set_option linter.all false
set_option maxRecDepth 100000
set_option maxHeartbeats 4000000
/-! A call by a local name that holds one of several defs, which may raise. -/
namespace CaL
open PySem PySem.Spec PyProof.Rows L2
def tCallLS (i : Nat) (S : Addr → Sp → Prop) (E : XK) (t : TA) : TE := fun σ H Q => ∃ f sp, σ[i]? = some (some (.ref f)) ∧ S f sp ∧ t σ H fun vs H1 => sp vs H1 Q E
section
variable {X : Cx} {CX : CXT} {k i : Nat} {x : Str} {p pos : Pos} {e : Expr} {es : List Expr} {t : TA}
theorem pe_callLS {S : Addr → Sp → Prop} {E : XK} (hS : ∀ f sp, S f sp → ∃ fd ps, FnOk X.prog X.w X.K X.mg X.base CX k f fd ps sp ∧ PySem.W.keepIn X.K (.ref f) = true ∧ Binds X.K fd ps []) (hr : Room k X.A) (hN : X.N[i]? = some x) (hv : Vis X.env.scope x) (hx : Passes CX X E) (ha : PA X (e :: es) t)
    (hdb : (x == ("__debug__" : Str)) = false := by decide) (hcd : (x == ("__classdict__" : Str)) = false := by decide)
    (he : starEach (e :: es) X.env = (false, eval e X.env) :: starEach es X.env := by rfl) (hpl : (backTo pos (starEach es X.env)).any (·.1) = false := by rfl) : PE X (.Call (.Name x p) (e :: es) [] pos) (tCallLS i S E t) := by
  refine ⟨fun pins s σ H Q I h => ?_⟩
  obtain ⟨f, sp, hs, hSf, ht⟩ := h
  obtain ⟨fd, ps, F, hk, hb⟩ := hS f sp hSf
  refine (pe_callL (i := i) (f := f) (sp := sp) (dvs := []) (E := E) F hr hN hv hk hb .nil hx ha hdb hcd he hpl).run pins s σ H Q I ⟨hs, ?_⟩
  have e0 : (fun (vs : List V) (H1 : Hp) => sp (vs ++ []) H1 Q E) = fun vs H1 => sp vs H1 Q E := by
    funext vs H1
    rw [List.append_nil]
  rw [e0]
  exact ht
end
end CaL
set_option Elab.async false
set_option linter.all false
set_option maxRecDepth 100000
set_option maxHeartbeats 4000000
/-! A def that lets nothing out, called in an except suite whatever is known of the exception: pinned there, nothing else. -/
namespace AnyF
open PySem PySem.Spec PyProof.Rows L2 L2H
/-- what such a def promises -/
structure FnA (P : Program) (w : World) (K : PySem.W.Frag) (mg : Str → Option Value) (base : Heap) (k : Nat) (f : Addr) (fd : FuncData) (ps : List Str) (sp : Sp) : Prop where
  len : ∀ vs H Q E, sp vs H Q E → vs.length = ps.length
  run : ∀ (A : Around) (outer : List Env) (s : Shared) (H : Hp) (args : Args) (us : List Value) (vs : List V) (Q : VK) (E : XK) (p : Addr × Obj), RoomH k A → PinOk outer H s p →
    Env0 P w K mg base A outer s H → BindsTo s fd args (ps.zip us) → Vals vs us → sp vs H Q E → codeAny (model P w) A (.call (.ref f) args) (CR CX0 outer P w H s Q E) s
section
variable {P : Program} {w : World} {K : PySem.W.Frag} {mg : Str → Option Value} {base : Heap} {x qual : Str} {st : Stmt} {f : Addr} {fd : FuncData} {N ps : List Str} {k : Nat} {sp : Sp}
theorem fnA_of (F : Fun K x qual st f fd) (S : FnScope N ps (defScope st)) (len : ∀ vs H Q E, sp vs H Q E → vs.length = ps.length)
    (hbody : ∀ (cd : Value) (A : Around) (outer : List Env) (s : Shared) (H : Hp) (vs : List V) (Q : VK) (E : XK) (p : Addr × Obj), RoomH k (A.deeper (envOfC qual (defScope st) s.heap.objs.size f cd)) → sp vs H Q E →
      ∃ t, PSs (cxH CX0 P w K mg base N qual (defScope st) f cd A outer s H E p) (defBody st) t ∧ t { nx := fun _ H' => Q .non H', rt := Q } (L2.start N vs) H) : FnA P w K mg base (k + 1) f fd ps sp := by
  obtain ⟨oc, od, kV, doc, pm, an, cd, ct, osl, efd, lk, hcode⟩ := F.ex
  subst efd
  constructor
  · exact len
  intro A outer s H args us vs Q E p room pin env bind vals hsp
  have inK : K.In s.heap := env.mod.kin.keeps (fun b o z => And.left (env.bs b o z))
  have free : s.heap.NoLimit := env.mod.nolimit.keeps (fun b o z => And.left (env.bs b o z))
  refine codeAny_call_function room.depth (inK _ _ lk) rfl S.co S.gen rfl (PySem.W.codeRec_of inK hcode) (bind _ _ _ _ ?bound)
  refine wpAny_newFunctionEnv_cells S.kind ?kinds ?body
  case kinds =>
    rintro ⟨n, v⟩ hy
    cases S.par n (List.of_mem_zip hy).1 with
    | inl q => exact Or.inl q
    | inr q => exact Or.inr ⟨q, PySem.W.cellsFrom_some _ _ _ (Or.inl q)⟩
  case body =>
    intro ev he s1 inCall
    subst he
    refine ⟨free.keeps inCall.toInCall.keep, codeAny_func ?inner⟩
    obtain ⟨t, derived, reading⟩ := hbody cd A outer s H vs Q E p (RoomH.deeper room _) hsp
    refine wpAny_mono (derived.run [] s1 (L2.start N vs) H _ (inv_startH S pin env (len _ _ _ _ hsp) vals inCall) reading) (fun fl s' hs => ?out) (fun _ _ z => z)
    match fl, hs with
    | .ret u, ⟨v, σ', H', J, rv, q⟩ => exact (⟨v, H', J.os, J.bare, J.base, J.hok, rv, q⟩ : CE outer P w H s Q u s')
    | .next, ⟨σ', H', J, q⟩ => exact (⟨V.non, H', J.os, J.bare, J.base, J.hok, rfl, q⟩ : CE outer P w H s Q Value.none s')
    | .brk, ⟨_, _, _, q⟩ => exact q.elim
    | .cont, ⟨_, _, _, q⟩ => exact q.elim
end
section
variable {X : Cx} {k : Nat} {f : Addr} {fd : FuncData} {ps : List Str} {sp : Sp} {x : Str} {q pos : Pos} {e : Expr} {es : List Expr} {t : TA}
/-- f(e, ..) where something is pinned -/
theorem pe_callA (F : FnA X.prog X.w X.K X.mg X.base k f fd ps sp) (room : RoomH k X.A) (pinned : ∃ p, p ∈ X.pn) (hg : Gl X x) (hm : X.mg x = some (.ref f)) (hk : PySem.W.keepIn X.K (.ref f) = true) (bs : Binds X.K fd ps [])
    (ha : PA X (e :: es) t) (hdb : (x == ("__debug__" : Str)) = false := by decide) (h1 : starEach (e :: es) X.env = (false, eval e X.env) :: starEach es X.env := by rfl) (h2 : (backTo pos (starEach es X.env)).any (·.1) = false := by rfl) :
    PE X (.Call (.Name x q) (e :: es) [] pos) (tCall sp [] E0 t) := by
  constructor
  intro pins s σ H Q I h
  refine wpAny_Call_Name_kw (ld_glob I hg hm ?_ hdb)
  refine PySem.W.callWith_K (h₀ := X.base) I.ok.mod.kin hk (thn (ha.run pos pins s σ H _ I h) ?_) h1 h2
  rintro us s1 ⟨vs, H1, J, r, z⟩
  rw [List.append_nil] at z
  refine ⟨J.kIn, ?_⟩
  obtain ⟨p, hp⟩ := pinned
  obtain ⟨p1, p2, p3, p4⟩ := J.pin p (List.mem_append_left _ hp)
  have same : us.length = ps.length := r.length.symm.trans (F.len _ _ _ _ z)
  have bound := bs s1 us J.kIn (by rw [List.append_nil]; exact same)
  rw [List.append_nil] at bound
  have pin : PinOk X.stack H1 s1 p := ⟨p1, p2, fun m => Or.elim (List.mem_cons.mp (J.stkSub p.1 m)) p3 p4.1, p4.2⟩
  refine wpAny_call (codeAny_mono (F.run X.A X.stack s1 H1 ⟨us, []⟩ us vs Q E0 p room pin J.env0 bound r z) (fun out s' w => ?_))
  match out, w with
  | .error _, w => exact w.elim
  | .ok (.ret u), w => exact J.after w
  | .ok .next, w => exact w.elim
  | .ok .brk, w => exact w.elim
  | .ok .cont, w => exact w.elim
end
end AnyF
set_option Elab.async false
set_option linter.all false
set_option maxRecDepth 100000
set_option maxHeartbeats 2000000
/-! isinstance of a held error that has fields. -/
namespace IsD
open PySem L2 PySem.Spec PyProof.Rows
def rIsE2 (K : PySem.W.Frag) (D a : Addr) (cls : Value) (d : Option Addr) : List V → Hp → VK → Prop := fun xs H Q => ∃ (c : V) (cv : Value) (b : Bool) (dd : Addr) (fs : List (Str × V)), xs = [.ref a, c] ∧ cls = .ref D ∧ d = some dd ∧ H dd = some (.xd fs) ∧ (∀ u, RelV c u → u = cv) ∧ PySem.W.kitOne K (.ref D) cv = some b ∧ Q (.bl b) H
def rIsET2 (K : PySem.W.Frag) (D a : Addr) (cls : Value) (d : Option Addr) : List V → Hp → VK → Prop := fun xs H Q => ∃ (tp : Addr) (cs : List V) (us : List Value) (b : Bool) (dd : Addr) (fs : List (Str × V)), xs = [.ref a, .ref tp] ∧ cls = .ref D ∧ d = some dd ∧ H dd = some (.xd fs) ∧ H tp = some (.tup cs) ∧ Paired ClsV cs us ∧ PySem.W.kitAny K (.ref D) us = some b ∧ Q (.bl b) H
section
variable {X : Cx} {a D : Addr} {oe : Obj} {pn : List (Addr × Obj)} {cls : Value} {d : Option Addr}
theorem kit_of {K : PySem.W.Frag} {x : Addr} {ox : Obj} {od : Option Obj} (C : ExcC K D) : PySem.W.KitX K (.ref x) (.ref D) (fun h => PySem.W.InstAt h x ox D od) := by
  have hcl : (PySem.W.clsIn K D).isSome = true := by
    obtain ⟨cd, hc, _⟩ := PySem.W.any_some C.hd
    rw [hc]; rfl
  exact PySem.W.kitx_exc hcl C.hg C.hk C.hs C.ha C.hn C.ht C.hm
theorem call_isE2 (C : ExcC X.K D) (hz : Zc cls d oe) (hf : ∃ vs, oe.data = .fields vs) : CallR (X.suite a ((a, oe) :: pn)) (.builtin "isinstance") (rIsE2 X.K D a cls d) := by
  intro pins s σ H xs us Q I r h
  obtain ⟨c, cv, b, dd, fs, rfl, rfl, rfl, ea, hcv, e, q⟩ := h
  cases r with
  | cons rx rr =>
    cases rr with
    | cons rt rr =>
      cases rr
      cases rx
      have ec := hcv _ rt
      subst ec
      obtain ⟨hget, _⟩ := I.pin (a, oe) (List.mem_append.mpr (.inl List.mem_cons_self))
      obtain ⟨vs, hd⟩ := hf
      have hx : ObjOk X.prog X.w H s.heap dd (.xd fs) := I.hok dd _ ea
      obtain ⟨mA, hns, hr⟩ := hx
      obtain ⟨od, ho, hl⟩ := lookIn_ns hns
      have J : PySem.W.InstAt s.heap a oe D (some od) := ⟨hget, hz.1, by unfold PySem.W.notCls; rw [hd] <;> rfl, by rw [hz.2]; exact ho⟩
      exact PySem.W.kia_one (kit_of C) I.kIn J e (fun z => nomatch z) fun tk => ⟨.bl b, H, I.kept (t' := tk) fun _ _ z => z, rfl, q⟩
theorem call_isET2 (C : ExcC X.K D) (hz : Zc cls d oe) (hf : ∃ vs, oe.data = .fields vs) : CallR (X.suite a ((a, oe) :: pn)) (.builtin "isinstance") (rIsET2 X.K D a cls d) := by
  intro pins s σ H xs us Q I r h
  obtain ⟨tp, cs, ws, b, dd, fs, rfl, rfl, rfl, ea, hT, k, e, q⟩ := h
  obtain ⟨u1, u2, rfl, r1, r2⟩ := vals2 r
  cases (show u1 = Value.ref a from r1)
  cases (show u2 = Value.ref tp from r2)
  obtain ⟨hget, _⟩ := I.pin (a, oe) (List.mem_append.mpr (.inl List.mem_cons_self))
  obtain ⟨vs, hd⟩ := hf
  have hx : ObjOk X.prog X.w H s.heap dd (.xd fs) := I.hok dd _ ea
  obtain ⟨mA, hns, hr⟩ := hx
  obtain ⟨od, ho, hl⟩ := lookIn_ns hns
  have J : PySem.W.InstAt s.heap a oe D (some od) := ⟨hget, hz.1, by unfold PySem.W.notCls; rw [hd] <;> rfl, by rw [hz.2]; exact ho⟩
  obtain ⟨_, its, rv, o, h1, h2, n, h3⟩ := (show ObjOk X.prog X.w H s.heap tp (.tup cs) from I.hok tp _ hT)
  have e3 := ClsV.all k rv
  subst e3
  obtain ⟨oc, od2, dt, sl⟩ := o
  simp only at h2 h3
  subst h2 h3
  exact PySem.W.kia_tup (kit_of C) I.kIn J h1 e (fun z => nomatch z) fun tk => ⟨.bl b, H, I.kept (t' := tk) fun _ _ z => z, rfl, q⟩
end
end IsD
set_option Elab.async false
set_option linter.all false
set_option maxRecDepth 100000
set_option maxHeartbeats 2000000
/-! t + u of two tuples, whatever is empty. -/
namespace CatB
open PySem L2 Gm
def rCatB (K : PySem.W.Frag) : R2 := fun x y H Q => ∃ a b xs ys, x = .ref a ∧ y = .ref b ∧ SqT K H a xs ∧ SqT K H b ys ∧ xs.length + ys.length ≤ sizeLine ∧ ∀ p H', Same H H' → SqT K H' p (xs ++ ys) → Q (.ref p) H'
theorem op_catB {X : Cx} (K : PySem.W.Frag) (h : X.K = K) : OpR X (binaryOp .Add) (rCatB K) := by
  subst h
  intro pins s σ H x y v u Q I rx ry h
  obtain ⟨a, b, xs, ys, rfl, rfl, ha, hb, hz, q⟩ := h
  refine op_catA pins s σ H _ _ v u Q I rx ry ⟨a, b, xs, ys, rfl, rfl, ha, hb, hz, fun e => ?_, fun _ e => ?_, fun _ _ p hp => q p _ (same_new hp _) (SqT.of upd_same)⟩
  · refine q b H (Same.refl _) ?_
    rw [e]
    exact hb
  · refine q a H (Same.refl _) ?_
    rw [e, List.append_nil]
    exact ha
end CatB
set_option Elab.async false
set_option linter.all false
set_option maxRecDepth 100000
set_option maxHeartbeats 4000000
namespace Toy
open PySem L2 Gm NdefX
open Mine (ErrF PrF err_ok spErr js_S3)
def top (i : Nat) : Stmt := PySem.Challenge.pw_tellsnone_k41_swapped_and_dropped_statem.main.body.getD i (.Pass ⟨0, 0, 0, 0⟩)
abbrev s_BadStep_init : Stmt := inClass (top 5) 0
def oke_BadStep : V → Prop := fun y => ∃ t : Str, y = .str t ∧ t.length ≤ 1000
theorem err_BadStep {P : Program} {w : World} {K : PySem.W.Frag} {mg : Str → Option Value} {base : Heap} {k : Nat} {C f : Addr} {fd : FuncData} {file : Str} (F : ErrF K mg C f fd "BadStep.__init__" s_BadStep_init file "rule") (hP : PrF P file) :
    FnOk P w K mg base CX0 (k + 1) f fd [("self" : Str), "rule"] (spErr C "rule" oke_BadStep) :=
  err_ok F hP.1 hP.2 rfl (nscope_by (by decide +kernel)) rfl rfl rfl (fun _ => rfl) (fun _ => rfl) (fun _ => rfl) (fun _ => rfl) (by decide) (by decide) (fun X hN hs => pe_joined (.cons pe_str (.cons (pe_fmt (pe_var (i := 1) (by rw [hN]; rfl) (by rw [hs]; exact .inl rfl))) (.cons pe_str .nil))))
    (by
      rintro σ H y Q e ⟨i, rfl, hi⟩ q
      exact js_S3 (by decide +kernel) (by decide +kernel) e hi q)
abbrev s_Game_init : Stmt := inClass (top 30) 0
theorem sc_Game_init : FnScope ["self", "variables", "tables", "lots", "procs"] ["self", "variables", "tables", "lots", "procs"] (defScope s_Game_init) := ⟨rfl, rfl, rfl, by decide +kernel, rfl, by decide +kernel, by decide +kernel⟩
abbrev s_Game_eq : Stmt := inClass (top 30) 1
theorem sc_Game_eq : FnScope ["self", "other"] ["self", "other"] (defScope s_Game_eq) := ⟨rfl, rfl, rfl, by decide +kernel, rfl, by decide +kernel, by decide +kernel⟩
abbrev s_Game_proc : Stmt := inClass (top 30) 2
theorem sc_Game_proc : FnScope ["self", "name", "proc"] ["self", "name"] (defScope s_Game_proc) := ⟨rfl, rfl, rfl, by decide +kernel, rfl, by decide +kernel, by decide +kernel⟩
abbrev s_every_expression : Stmt := top 33
theorem sc_every_expression : FnScope ["expression", "found"] ["expression"] (defScope s_every_expression) := ⟨rfl, rfl, rfl, by decide +kernel, rfl, by decide +kernel, by decide +kernel⟩
abbrev s_every_statement : Stmt := top 35
theorem sc_every_statement : FnScope ["block", "found", "statement", "inner"] ["block"] (defScope s_every_statement) := ⟨rfl, rfl, rfl, by decide +kernel, rfl, by decide +kernel, by decide +kernel⟩
abbrev s_inner_blocks : Stmt := top 36
theorem sc_inner_blocks : FnScope ["statement"] ["statement"] (defScope s_inner_blocks) := ⟨rfl, rfl, rfl, by decide +kernel, rfl, by decide +kernel, by decide +kernel⟩
abbrev s_own_expressions : Stmt := top 37
theorem sc_own_expressions : FnScope ["statement", "word", "kind", "part"] ["statement"] (defScope s_own_expressions) := ⟨rfl, rfl, rfl, by decide +kernel, rfl, by decide +kernel, by decide +kernel⟩
abbrev s_expression_reads : Stmt := top 49
theorem sc_expression_reads : FnScope ["expression", "found", "part"] ["expression"] (defScope s_expression_reads) := ⟨rfl, rfl, rfl, by decide +kernel, rfl, by decide +kernel, by decide +kernel⟩
abbrev s_statement_reads : Stmt := top 50
theorem sc_statement_reads : FnScope ["statement"] ["statement"] (defScope s_statement_reads) := ⟨rfl, rfl, rfl, by decide +kernel, rfl, by decide +kernel, by decide +kernel⟩
abbrev s_block_reads : Stmt := top 51
theorem sc_block_reads : FnScope ["block", "found", "statement", "part"] ["block"] (defScope s_block_reads) := ⟨rfl, rfl, rfl, by decide +kernel, rfl, by decide +kernel, by decide +kernel⟩
abbrev s_proc_reads : Stmt := top 52
theorem sc_proc_reads : FnScope ["proc"] ["proc"] (defScope s_proc_reads) := ⟨rfl, rfl, rfl, by decide +kernel, rfl, by decide +kernel, by decide +kernel⟩
abbrev s_own_writes : Stmt := top 53
theorem sc_own_writes : FnScope ["statement", "word", "found"] ["statement"] (defScope s_own_writes) := ⟨rfl, rfl, rfl, by decide +kernel, rfl, by decide +kernel, by decide +kernel⟩
abbrev s_statement_writes : Stmt := top 54
theorem sc_statement_writes : FnScope ["statement", "found", "part"] ["statement"] (defScope s_statement_writes) := ⟨rfl, rfl, rfl, by decide +kernel, rfl, by decide +kernel, by decide +kernel⟩
abbrev s_disturbs : Stmt := top 55
theorem sc_disturbs : FnScope ["statement", "other", "touched"] ["statement", "other"] (defScope s_disturbs) := ⟨rfl, rfl, rfl, by decide +kernel, rfl, by decide +kernel, by decide +kernel⟩
abbrev s_reads_local : Stmt := top 56
theorem sc_reads_local : FnScope ["expression", "local"] ["expression", "local"] (defScope s_reads_local) := ⟨rfl, rfl, rfl, by decide +kernel, rfl, by decide +kernel, by decide +kernel⟩
abbrev s_require : Stmt := top 65
theorem sc_require : FnScope ["holds", "step"] ["holds", "step"] (defScope s_require) := ⟨rfl, rfl, rfl, by decide +kernel, rfl, by decide +kernel, by decide +kernel⟩
abbrev s_proc_of : Stmt := top 66
theorem sc_proc_of : FnScope ["game", "step", "proc"] ["game", "step"] (defScope s_proc_of) := ⟨rfl, rfl, rfl, by decide +kernel, rfl, by decide +kernel, by decide +kernel⟩
abbrev s_statement_of : Stmt := top 67
theorem sc_statement_of : FnScope ["game", "step", "proc"] ["game", "step"] (defScope s_statement_of) := ⟨rfl, rfl, rfl, by decide +kernel, rfl, by decide +kernel, by decide +kernel⟩
abbrev s_pair_of : Stmt := top 68
theorem sc_pair_of : FnScope ["game", "step", "proc", "statement"] ["game", "step"] (defScope s_pair_of) := ⟨rfl, rfl, rfl, by decide +kernel, rfl, by decide +kernel, by decide +kernel⟩
abbrev s_with_proc : Stmt := top 69
theorem sc_with_proc : FnScope ["game", "new", "procs", "proc"] ["game", "new"] (defScope s_with_proc) := ⟨rfl, rfl, rfl, by decide +kernel, rfl, by decide +kernel, by decide +kernel⟩
abbrev s_replaced : Stmt := top 70
theorem sc_replaced : FnScope ["game", "proc", "at", "many", "statements", "name", "size", "answers", "inner", "block", "result", "new"] ["game", "proc", "at", "many", "statements"] (defScope s_replaced) := ⟨rfl, rfl, rfl, by decide +kernel, rfl, by decide +kernel, by decide +kernel⟩
abbrev s_swap_step : Stmt := top 72
theorem sc_swap_step : FnScope ["game", "step", "proc", "one", "other"] ["game", "step"] (defScope s_swap_step) := ⟨rfl, rfl, rfl, by decide +kernel, rfl, by decide +kernel, by decide +kernel⟩
abbrev s_drop_step : Stmt := top 73
theorem sc_drop_step : FnScope ["game", "step", "proc", "statement", "later"] ["game", "step"] (defScope s_drop_step) := ⟨rfl, rfl, rfl, by decide +kernel, rfl, by decide +kernel, by decide +kernel⟩
abbrev s_same : Stmt := top 83
theorem sc_same : FnScope ["game", "step", "action"] ["game", "step"] (defScope s_same) := ⟨rfl, rfl, rfl, by decide +kernel, rfl, by decide +kernel, by decide +kernel⟩
abbrev s_law_cell : Stmt := top 85
theorem sc_law_cell : FnScope ["script", "k"] ["script", "k"] (defScope s_law_cell) := ⟨rfl, rfl, rfl, by decide +kernel, rfl, by decide +kernel, by decide +kernel⟩
abbrev s_law_row : Stmt := top 87
theorem sc_law_row : FnScope ["cell", "count", "size", "state", "row", "k"] ["cell", "count", "size"] (defScope s_law_row) := ⟨rfl, rfl, rfl, by decide +kernel, rfl, by decide +kernel, by decide +kernel⟩
abbrev s_law_side : Stmt := top 88
theorem sc_law_side : FnScope ["code", "names", "variables", "tables", "pick", "rest", "local", "sign"] ["code", "names", "variables", "tables"] (defScope s_law_side) := ⟨rfl, rfl, rfl, by decide +kernel, rfl, by decide +kernel, by decide +kernel⟩
abbrev s_law_value : Stmt := top 89
theorem sc_law_value : FnScope ["cell", "names", "variables", "tables", "kind", "rest", "key", "sign", "left"] ["cell", "names", "variables", "tables"] (defScope s_law_value) := ⟨rfl, rfl, rfl, by decide +kernel, rfl, by decide +kernel, by decide +kernel⟩
abbrev s_law_plain : Stmt := top 90
theorem sc_law_plain : FnScope ["cell", "names", "variables", "tables", "lots", "kind", "rest", "value", "key", "looked"] ["cell", "names", "variables", "tables", "lots"] (defScope s_law_plain) := ⟨rfl, rfl, rfl, by decide +kernel, rfl, by decide +kernel, by decide +kernel⟩
abbrev s_law_block : Stmt := top 91
theorem sc_law_block : FnScope ["cells", "names", "variables", "tables", "lots", "block", "cell", "way", "rest", "inner", "more", "other", "then", "test"] ["cells", "names", "variables", "tables", "lots"] (defScope s_law_block) := ⟨rfl, rfl, rfl, by decide +kernel, rfl, by decide +kernel, by decide +kernel⟩
abbrev s_law_game : Stmt := top 92
theorem sc_law_game : FnScope ["script", "at", "digits", "variables", "tables", "lots", "procs", "k", "names", "cells", "block", "result", "rows", "first", "name"] ["script", "at"] (defScope s_law_game) := ⟨rfl, rfl, rfl, by decide +kernel, rfl, by decide +kernel, by decide +kernel⟩
abbrev s_law_made : Stmt := top 93
theorem sc_law_made : FnScope ["game"] ["game"] (defScope s_law_made) := ⟨rfl, rfl, rfl, by decide +kernel, rfl, by decide +kernel, by decide +kernel⟩
abbrev s_law_uses : Stmt := top 94
theorem sc_law_uses : FnScope ["expression", "kind"] ["expression"] (defScope s_law_uses) := ⟨rfl, rfl, rfl, by decide +kernel, rfl, by decide +kernel, by decide +kernel⟩
abbrev s_law_touch : Stmt := top 95
theorem sc_law_touch : FnScope ["block", "read", "written", "statement", "kind", "inner", "then", "other"] ["block"] (defScope s_law_touch) := ⟨rfl, rfl, rfl, by decide +kernel, rfl, by decide +kernel, by decide +kernel⟩
abbrev s_law_with : Stmt := top 96
theorem sc_law_with : FnScope ["game", "name", "block", "names", "procs", "proc"] ["game", "name", "block", "names"] (defScope s_law_with) := ⟨rfl, rfl, rfl, by decide +kernel, rfl, by decide +kernel, by decide +kernel⟩
abbrev s_law_proc : Stmt := top 97
theorem sc_law_proc : FnScope ["game", "name", "proc"] ["game", "name"] (defScope s_law_proc) := ⟨rfl, rfl, rfl, by decide +kernel, rfl, by decide +kernel, by decide +kernel⟩
abbrev s_law_parts : Stmt := top 98
theorem sc_law_parts : FnScope ["game"] ["game"] (defScope s_law_parts) := ⟨rfl, rfl, rfl, by decide +kernel, rfl, by decide +kernel, by decide +kernel⟩
abbrev s_law_tried : Stmt := top 99
theorem sc_law_tried : FnScope ["made", "step", "due", "actual", "e"] ["made", "step", "due"] (defScope s_law_tried) := ⟨rfl, rfl, rfl, by decide +kernel, rfl, by decide +kernel, by decide +kernel⟩
abbrev s_law_alike : Stmt := top 100
theorem sc_law_alike : FnScope ["game", "way", "other", "procs", "proc", "tables", "row", "lots"] ["game", "way"] (defScope s_law_alike) := ⟨rfl, rfl, rfl, by decide +kernel, rfl, by decide +kernel, by decide +kernel⟩
abbrev s_law_alike_value : Stmt := top 101
theorem sc_law_alike_value : FnScope ["value", "other"] ["value", "other"] (defScope s_law_alike_value) := ⟨rfl, rfl, rfl, by decide +kernel, rfl, by decide +kernel, by decide +kernel⟩
abbrev s_law_alike_block : Stmt := top 102
theorem sc_law_alike_block : FnScope ["block", "other", "result", "statement", "kind", "parts", "values"] ["block", "other"] (defScope s_law_alike_block) := ⟨rfl, rfl, rfl, by decide +kernel, rfl, by decide +kernel, by decide +kernel⟩
abbrev s_law_swapped : Stmt := top 103
theorem sc_law_swapped : FnScope ["game", "name", "at", "proc", "one", "two", "place"] ["game", "name", "at"] (defScope s_law_swapped) := ⟨rfl, rfl, rfl, by decide +kernel, rfl, by decide +kernel, by decide +kernel⟩
abbrev s_law_dropped : Stmt := top 104
theorem sc_law_dropped : FnScope ["game", "name", "at", "proc"] ["game", "name", "at"] (defScope s_law_dropped) := ⟨rfl, rfl, rfl, by decide +kernel, rfl, by decide +kernel, by decide +kernel⟩
abbrev s_law_sunken : Stmt := top 105
theorem sc_law_sunken : FnScope ["game", "cell", "proc", "at", "inner", "turn", "way", "block"] ["game", "cell"] (defScope s_law_sunken) := ⟨rfl, rfl, rfl, by decide +kernel, rfl, by decide +kernel, by decide +kernel⟩
abbrev s_law : Stmt := top 106
theorem sc_law : FnScope ["script", "game", "names", "made", "cell", "name", "at"] ["script"] (defScope s_law) := ⟨rfl, rfl, rfl, by decide +kernel, rfl, by decide +kernel, by decide +kernel⟩
/-! ### the promises of the drawn parts -/
def spCell (K : PySem.W.Frag) : Sp := fun vs H Q _ => ∃ (a : Addr) (ns : List Int) (k : Int), vs = [.ref a, .int k] ∧ SqL K H a (ns.map V.int) ∧ 0 ≤ k ∧ Q (.int (ns.getD k.toNat 0)) H
def spRow : Sp := fun vs H Q _ => ∃ (cell count size : Int), vs = [.int cell, .int count, .int size] ∧ 0 ≤ count ∧ count ≤ 1000 ∧ 0 < size ∧ size.natAbs < 2 ^ 100 ∧
  ∀ (p : Addr) (ns : List Int) (H' : Hp), Same H H' → H' p = some (.lst (ns.map V.int)) → ns.length = count.toNat → (∀ x ∈ ns, 0 ≤ x ∧ x < size) → Q (.ref p) H'
/-- the names that a part may use stand at these places -/
structure At (K : PySem.W.Frag) (s : Sc) (H : Hp) (na va ta : Addr) : Prop where
  n : SqT K H na (s.locs.map V.str)
  v : SqL K H va (s.vars.map V.str)
  t : SqL K H ta (s.tabs.map V.str)
  n0 : s.locs ≠ []
theorem At.mono {K : PySem.W.Frag} {s : Sc} {H H' : Hp} {na va ta : Addr} (a : At K s H na va ta) (e : Same H H') : At K s H' na va ta := ⟨sqT_mono e a.n, e.seq a.v, e.seq a.t, a.n0⟩
def spSide (K : PySem.W.Frag) (k : Nat) : Sp := fun vs H Q _ => ∃ (code : Int) (na va ta : Addr) (s : Sc), vs = [.int code, .ref na, .ref va, .ref ta] ∧ At K s H na va ta ∧
  ∀ (v : V) (e : Ex) (H' : Hp), Same H H' → Dp K H' v e.d → e.Ok s k → Q v H'
def spPlain (K : PySem.W.Frag) : Sp := fun vs H Q _ => ∃ (code : Int) (na va ta la : Addr) (s : Sc), vs = [.int code, .ref na, .ref va, .ref ta, .ref la] ∧ At K s H na va ta ∧ SqL K H la (s.lots.map V.str) ∧
  ∀ (v : V) (x : Stm) (H' : Hp), Same H H' → Dp K H' v x.d → x.Ok s 3 0 → Q v H'
def spBlock (K : PySem.W.Frag) : Sp := fun vs H Q _ => ∃ (ca na va ta la : Addr) (ns : List Int) (s : Sc), vs = [.ref ca, .ref na, .ref va, .ref ta, .ref la] ∧ SqL K H ca (ns.map V.int) ∧ ns.length ≤ 1000 ∧ At K s H na va ta ∧ SqL K H la (s.lots.map V.str) ∧
  ∀ (v : V) (b : Blk) (H' : Hp), Same H H' → Dp K H' v b.d → b.Ok s 3 2 → b.len = ns.length → Q v H'
set_option genInjectivity false in
set_option genSizeOf false in
set_option genSizeOfSpec false in
structure Txt (K : PySem.W.Frag) (mg : Str → Option Value) (file : Str) where
  o_n : PySem.W.specialIn K (.builtin "object.__class__") "__get__" = some (some (.builtin "getset_descriptor.__get__"))
  o_t : PySem.W.takesIn K (.builtin "object.__class__") = some true
  C_Game : Addr
  g_Game : mg "Game" = some (.ref C_Game)
  cl_Game : Cls K C_Game
  sf_Game : PySem.W.selfFirst K C_Game = true
  na_Game_variables : NoAttr K C_Game "variables"
  na_Game_tables : NoAttr K C_Game "tables"
  na_Game_lots : NoAttr K C_Game "lots"
  na_Game_procs : NoAttr K C_Game "procs"
  ia_Game : PySem.W.findIn K (.ref C_Game) "__class__" = some (some (.builtin "object.__class__"))
  im_Game : PySem.W.mroIn K C_Game (.type "object") = some true
  ik_Game : PySem.W.kitOne K (.ref C_Game) (.ref C_Game) = some true
  a_law_cell : Addr
  fd_law_cell : FuncData
  F_law_cell : Fun K "_law_cell" "_law_cell" s_law_cell a_law_cell fd_law_cell
  b_law_cell : L2.Binds K fd_law_cell ["script", "k"] []
  k_law_cell : PySem.W.keepIn K (.ref a_law_cell) = true
  g_law_cell : mg "_law_cell" = some (.ref a_law_cell)
  a_law_row : Addr
  fd_law_row : FuncData
  F_law_row : Fun K "_law_row" "_law_row" s_law_row a_law_row fd_law_row
  b_law_row : L2.Binds K fd_law_row ["cell", "count", "size"] []
  k_law_row : PySem.W.keepIn K (.ref a_law_row) = true
  g_law_row : mg "_law_row" = some (.ref a_law_row)
  a_law_side : Addr
  fd_law_side : FuncData
  F_law_side : Fun K "_law_side" "_law_side" s_law_side a_law_side fd_law_side
  b_law_side : L2.Binds K fd_law_side ["code", "names", "variables", "tables"] []
  k_law_side : PySem.W.keepIn K (.ref a_law_side) = true
  g_law_side : mg "_law_side" = some (.ref a_law_side)
  a_law_value : Addr
  fd_law_value : FuncData
  F_law_value : Fun K "_law_value" "_law_value" s_law_value a_law_value fd_law_value
  b_law_value : L2.Binds K fd_law_value ["cell", "names", "variables", "tables"] []
  k_law_value : PySem.W.keepIn K (.ref a_law_value) = true
  g_law_value : mg "_law_value" = some (.ref a_law_value)
  a_law_plain : Addr
  fd_law_plain : FuncData
  F_law_plain : Fun K "_law_plain" "_law_plain" s_law_plain a_law_plain fd_law_plain
  b_law_plain : L2.Binds K fd_law_plain ["cell", "names", "variables", "tables", "lots"] []
  k_law_plain : PySem.W.keepIn K (.ref a_law_plain) = true
  g_law_plain : mg "_law_plain" = some (.ref a_law_plain)
  a_law_block : Addr
  fd_law_block : FuncData
  F_law_block : Fun K "_law_block" "_law_block" s_law_block a_law_block fd_law_block
  b_law_block : L2.Binds K fd_law_block ["cells", "names", "variables", "tables", "lots"] []
  k_law_block : PySem.W.keepIn K (.ref a_law_block) = true
  g_law_block : mg "_law_block" = some (.ref a_law_block)
  a_law_game : Addr
  fd_law_game : FuncData
  F_law_game : Fun K "_law_game" "_law_game" s_law_game a_law_game fd_law_game
  b_law_game : L2.Binds K fd_law_game ["script", "at"] []
  k_law_game : PySem.W.keepIn K (.ref a_law_game) = true
  g_law_game : mg "_law_game" = some (.ref a_law_game)
  a_Game_init : Addr
  fd_Game_init : FuncData
  F_Game_init : Fun K "__init__" "Game.__init__" s_Game_init a_Game_init fd_Game_init
  b_Game_init : L2.Binds K fd_Game_init ["self", "variables", "tables", "lots", "procs"] []
  k_Game_init : PySem.W.keepIn K (.ref a_Game_init) = true
  m_Game_init : Meth K C_Game "__init__" a_Game_init
  a_Game_eq : Addr
  fd_Game_eq : FuncData
  F_Game_eq : Fun K "__eq__" "Game.__eq__" s_Game_eq a_Game_eq fd_Game_eq
  b_Game_eq : L2.Binds K fd_Game_eq ["self", "other"] []
  k_Game_eq : PySem.W.keepIn K (.ref a_Game_eq) = true
  m_Game_eq : Meth K C_Game "__eq__" a_Game_eq
  a_Game_proc : Addr
  fd_Game_proc : FuncData
  F_Game_proc : Fun K "proc" "Game.proc" s_Game_proc a_Game_proc fd_Game_proc
  b_Game_proc : L2.Binds K fd_Game_proc ["self", "name"] []
  k_Game_proc : PySem.W.keepIn K (.ref a_Game_proc) = true
  m_Game_proc : Meth K C_Game "proc" a_Game_proc
  a_require : Addr
  fd_require : FuncData
  F_require : Fun K "require" "require" s_require a_require fd_require
  b_require : L2.Binds K fd_require ["holds", "step"] []
  k_require : PySem.W.keepIn K (.ref a_require) = true
  g_require : mg "require" = some (.ref a_require)
  a_proc_of : Addr
  fd_proc_of : FuncData
  F_proc_of : Fun K "proc_of" "proc_of" s_proc_of a_proc_of fd_proc_of
  b_proc_of : L2.Binds K fd_proc_of ["game", "step"] []
  k_proc_of : PySem.W.keepIn K (.ref a_proc_of) = true
  g_proc_of : mg "proc_of" = some (.ref a_proc_of)
  a_statement_of : Addr
  fd_statement_of : FuncData
  F_statement_of : Fun K "statement_of" "statement_of" s_statement_of a_statement_of fd_statement_of
  b_statement_of : L2.Binds K fd_statement_of ["game", "step"] []
  k_statement_of : PySem.W.keepIn K (.ref a_statement_of) = true
  g_statement_of : mg "statement_of" = some (.ref a_statement_of)
  a_pair_of : Addr
  fd_pair_of : FuncData
  F_pair_of : Fun K "pair_of" "pair_of" s_pair_of a_pair_of fd_pair_of
  b_pair_of : L2.Binds K fd_pair_of ["game", "step"] []
  k_pair_of : PySem.W.keepIn K (.ref a_pair_of) = true
  g_pair_of : mg "pair_of" = some (.ref a_pair_of)
  a_with_proc : Addr
  fd_with_proc : FuncData
  F_with_proc : Fun K "with_proc" "with_proc" s_with_proc a_with_proc fd_with_proc
  b_with_proc : L2.Binds K fd_with_proc ["game", "new"] []
  k_with_proc : PySem.W.keepIn K (.ref a_with_proc) = true
  g_with_proc : mg "with_proc" = some (.ref a_with_proc)
  a_replaced : Addr
  fd_replaced : FuncData
  F_replaced : Fun K "replaced" "replaced" s_replaced a_replaced fd_replaced
  b_replaced : L2.Binds K fd_replaced ["game", "proc", "at", "many", "statements"] []
  k_replaced : PySem.W.keepIn K (.ref a_replaced) = true
  g_replaced : mg "replaced" = some (.ref a_replaced)
  a_every_expression : Addr
  fd_every_expression : FuncData
  F_every_expression : Fun K "every_expression" "every_expression" s_every_expression a_every_expression fd_every_expression
  b_every_expression : L2.Binds K fd_every_expression ["expression"] []
  k_every_expression : PySem.W.keepIn K (.ref a_every_expression) = true
  g_every_expression : mg "every_expression" = some (.ref a_every_expression)
  a_expression_reads : Addr
  fd_expression_reads : FuncData
  F_expression_reads : Fun K "expression_reads" "expression_reads" s_expression_reads a_expression_reads fd_expression_reads
  b_expression_reads : L2.Binds K fd_expression_reads ["expression"] []
  k_expression_reads : PySem.W.keepIn K (.ref a_expression_reads) = true
  g_expression_reads : mg "expression_reads" = some (.ref a_expression_reads)
  a_reads_local : Addr
  fd_reads_local : FuncData
  F_reads_local : Fun K "reads_local" "reads_local" s_reads_local a_reads_local fd_reads_local
  b_reads_local : L2.Binds K fd_reads_local ["expression", "local"] []
  k_reads_local : PySem.W.keepIn K (.ref a_reads_local) = true
  g_reads_local : mg "reads_local" = some (.ref a_reads_local)
  a_inner_blocks : Addr
  fd_inner_blocks : FuncData
  F_inner_blocks : Fun K "inner_blocks" "inner_blocks" s_inner_blocks a_inner_blocks fd_inner_blocks
  b_inner_blocks : L2.Binds K fd_inner_blocks ["statement"] []
  k_inner_blocks : PySem.W.keepIn K (.ref a_inner_blocks) = true
  g_inner_blocks : mg "inner_blocks" = some (.ref a_inner_blocks)
  a_every_statement : Addr
  fd_every_statement : FuncData
  F_every_statement : Fun K "every_statement" "every_statement" s_every_statement a_every_statement fd_every_statement
  b_every_statement : L2.Binds K fd_every_statement ["block"] []
  k_every_statement : PySem.W.keepIn K (.ref a_every_statement) = true
  g_every_statement : mg "every_statement" = some (.ref a_every_statement)
  a_own_expressions : Addr
  fd_own_expressions : FuncData
  F_own_expressions : Fun K "own_expressions" "own_expressions" s_own_expressions a_own_expressions fd_own_expressions
  b_own_expressions : L2.Binds K fd_own_expressions ["statement"] []
  k_own_expressions : PySem.W.keepIn K (.ref a_own_expressions) = true
  g_own_expressions : mg "own_expressions" = some (.ref a_own_expressions)
  a_block_reads : Addr
  fd_block_reads : FuncData
  F_block_reads : Fun K "block_reads" "block_reads" s_block_reads a_block_reads fd_block_reads
  b_block_reads : L2.Binds K fd_block_reads ["block"] []
  k_block_reads : PySem.W.keepIn K (.ref a_block_reads) = true
  g_block_reads : mg "block_reads" = some (.ref a_block_reads)
  a_proc_reads : Addr
  fd_proc_reads : FuncData
  F_proc_reads : Fun K "proc_reads" "proc_reads" s_proc_reads a_proc_reads fd_proc_reads
  b_proc_reads : L2.Binds K fd_proc_reads ["proc"] []
  k_proc_reads : PySem.W.keepIn K (.ref a_proc_reads) = true
  g_proc_reads : mg "proc_reads" = some (.ref a_proc_reads)
  a_own_writes : Addr
  fd_own_writes : FuncData
  F_own_writes : Fun K "own_writes" "own_writes" s_own_writes a_own_writes fd_own_writes
  b_own_writes : L2.Binds K fd_own_writes ["statement"] []
  k_own_writes : PySem.W.keepIn K (.ref a_own_writes) = true
  g_own_writes : mg "own_writes" = some (.ref a_own_writes)
  a_statement_reads : Addr
  fd_statement_reads : FuncData
  F_statement_reads : Fun K "statement_reads" "statement_reads" s_statement_reads a_statement_reads fd_statement_reads
  b_statement_reads : L2.Binds K fd_statement_reads ["statement"] []
  k_statement_reads : PySem.W.keepIn K (.ref a_statement_reads) = true
  g_statement_reads : mg "statement_reads" = some (.ref a_statement_reads)
  a_statement_writes : Addr
  fd_statement_writes : FuncData
  F_statement_writes : Fun K "statement_writes" "statement_writes" s_statement_writes a_statement_writes fd_statement_writes
  b_statement_writes : L2.Binds K fd_statement_writes ["statement"] []
  k_statement_writes : PySem.W.keepIn K (.ref a_statement_writes) = true
  g_statement_writes : mg "statement_writes" = some (.ref a_statement_writes)
  a_disturbs : Addr
  fd_disturbs : FuncData
  F_disturbs : Fun K "disturbs" "disturbs" s_disturbs a_disturbs fd_disturbs
  b_disturbs : L2.Binds K fd_disturbs ["statement", "other"] []
  k_disturbs : PySem.W.keepIn K (.ref a_disturbs) = true
  g_disturbs : mg "disturbs" = some (.ref a_disturbs)
  a_swap_step : Addr
  fd_swap_step : FuncData
  F_swap_step : Fun K "swap_step" "swap_step" s_swap_step a_swap_step fd_swap_step
  b_swap_step : L2.Binds K fd_swap_step ["game", "step"] []
  k_swap_step : PySem.W.keepIn K (.ref a_swap_step) = true
  g_swap_step : mg "swap_step" = some (.ref a_swap_step)
  a_drop_step : Addr
  fd_drop_step : FuncData
  F_drop_step : Fun K "drop_step" "drop_step" s_drop_step a_drop_step fd_drop_step
  b_drop_step : L2.Binds K fd_drop_step ["game", "step"] []
  k_drop_step : PySem.W.keepIn K (.ref a_drop_step) = true
  g_drop_step : mg "drop_step" = some (.ref a_drop_step)
  a_same : Addr
  fd_same : FuncData
  F_same : Fun K "same" "same" s_same a_same fd_same
  b_same : L2.Binds K fd_same ["game", "step"] []
  k_same : PySem.W.keepIn K (.ref a_same) = true
  g_same : mg "same" = some (.ref a_same)
  a_law_made : Addr
  fd_law_made : FuncData
  F_law_made : Fun K "_law_made" "_law_made" s_law_made a_law_made fd_law_made
  b_law_made : L2.Binds K fd_law_made ["game"] []
  k_law_made : PySem.W.keepIn K (.ref a_law_made) = true
  g_law_made : mg "_law_made" = some (.ref a_law_made)
  a_law_parts : Addr
  fd_law_parts : FuncData
  F_law_parts : Fun K "_law_parts" "_law_parts" s_law_parts a_law_parts fd_law_parts
  b_law_parts : L2.Binds K fd_law_parts ["game"] []
  k_law_parts : PySem.W.keepIn K (.ref a_law_parts) = true
  g_law_parts : mg "_law_parts" = some (.ref a_law_parts)
  a_law_uses : Addr
  fd_law_uses : FuncData
  F_law_uses : Fun K "_law_uses" "_law_uses" s_law_uses a_law_uses fd_law_uses
  b_law_uses : L2.Binds K fd_law_uses ["expression"] []
  k_law_uses : PySem.W.keepIn K (.ref a_law_uses) = true
  g_law_uses : mg "_law_uses" = some (.ref a_law_uses)
  a_law_with : Addr
  fd_law_with : FuncData
  F_law_with : Fun K "_law_with" "_law_with" s_law_with a_law_with fd_law_with
  b_law_with : L2.Binds K fd_law_with ["game", "name", "block", "names"] []
  k_law_with : PySem.W.keepIn K (.ref a_law_with) = true
  g_law_with : mg "_law_with" = some (.ref a_law_with)
  a_law_proc : Addr
  fd_law_proc : FuncData
  F_law_proc : Fun K "_law_proc" "_law_proc" s_law_proc a_law_proc fd_law_proc
  b_law_proc : L2.Binds K fd_law_proc ["game", "name"] []
  k_law_proc : PySem.W.keepIn K (.ref a_law_proc) = true
  g_law_proc : mg "_law_proc" = some (.ref a_law_proc)
  a_law_touch : Addr
  fd_law_touch : FuncData
  F_law_touch : Fun K "_law_touch" "_law_touch" s_law_touch a_law_touch fd_law_touch
  b_law_touch : L2.Binds K fd_law_touch ["block"] []
  k_law_touch : PySem.W.keepIn K (.ref a_law_touch) = true
  g_law_touch : mg "_law_touch" = some (.ref a_law_touch)
  a_law_alike_value : Addr
  fd_law_alike_value : FuncData
  F_law_alike_value : Fun K "_law_alike_value" "_law_alike_value" s_law_alike_value a_law_alike_value fd_law_alike_value
  b_law_alike_value : L2.Binds K fd_law_alike_value ["value", "other"] []
  k_law_alike_value : PySem.W.keepIn K (.ref a_law_alike_value) = true
  g_law_alike_value : mg "_law_alike_value" = some (.ref a_law_alike_value)
  a_law_alike_block : Addr
  fd_law_alike_block : FuncData
  F_law_alike_block : Fun K "_law_alike_block" "_law_alike_block" s_law_alike_block a_law_alike_block fd_law_alike_block
  b_law_alike_block : L2.Binds K fd_law_alike_block ["block", "other"] []
  k_law_alike_block : PySem.W.keepIn K (.ref a_law_alike_block) = true
  g_law_alike_block : mg "_law_alike_block" = some (.ref a_law_alike_block)
  a_law_alike : Addr
  fd_law_alike : FuncData
  F_law_alike : Fun K "_law_alike" "_law_alike" s_law_alike a_law_alike fd_law_alike
  b_law_alike : L2.Binds K fd_law_alike ["game", "way"] []
  k_law_alike : PySem.W.keepIn K (.ref a_law_alike) = true
  g_law_alike : mg "_law_alike" = some (.ref a_law_alike)
  a_law_sunken : Addr
  fd_law_sunken : FuncData
  F_law_sunken : Fun K "_law_sunken" "_law_sunken" s_law_sunken a_law_sunken fd_law_sunken
  b_law_sunken : L2.Binds K fd_law_sunken ["game", "cell"] []
  k_law_sunken : PySem.W.keepIn K (.ref a_law_sunken) = true
  g_law_sunken : mg "_law_sunken" = some (.ref a_law_sunken)
  a_law_tried : Addr
  fd_law_tried : FuncData
  F_law_tried : Fun K "_law_tried" "_law_tried" s_law_tried a_law_tried fd_law_tried
  b_law_tried : L2.Binds K fd_law_tried ["made", "step", "due"] []
  k_law_tried : PySem.W.keepIn K (.ref a_law_tried) = true
  g_law_tried : mg "_law_tried" = some (.ref a_law_tried)
  a_law_swapped : Addr
  fd_law_swapped : FuncData
  F_law_swapped : Fun K "_law_swapped" "_law_swapped" s_law_swapped a_law_swapped fd_law_swapped
  b_law_swapped : L2.Binds K fd_law_swapped ["game", "name", "at"] []
  k_law_swapped : PySem.W.keepIn K (.ref a_law_swapped) = true
  g_law_swapped : mg "_law_swapped" = some (.ref a_law_swapped)
  a_law_dropped : Addr
  fd_law_dropped : FuncData
  F_law_dropped : Fun K "_law_dropped" "_law_dropped" s_law_dropped a_law_dropped fd_law_dropped
  b_law_dropped : L2.Binds K fd_law_dropped ["game", "name", "at"] []
  k_law_dropped : PySem.W.keepIn K (.ref a_law_dropped) = true
  g_law_dropped : mg "_law_dropped" = some (.ref a_law_dropped)
  a_law : Addr
  fd_law : FuncData
  F_law : Fun K "law" "law" s_law a_law fd_law
  b_law : L2.Binds K fd_law ["script"] []
  k_law : PySem.W.keepIn K (.ref a_law) = true
  g_law : mg "law" = some (.ref a_law)
  mk_Game : Mk K C_Game a_Game_init
  C_BadStep : Addr
  g_BadStep : mg "BadStep" = some (.ref C_BadStep)
  kc_BadStep : PySem.W.keepIn K (.ref C_BadStep) = true
  xb_BadStep : PySem.W.subIn K (.ref C_BadStep) (.type "BaseException") = some true
  xt_BadStep : PySem.W.typeIn K (.ref C_BadStep) = some (.type "type")
  xd_BadStep : PySem.W.hasDictIn K C_BadStep = true
  a_BadStep_init : Addr
  fd_BadStep_init : FuncData
  E_BadStep : ErrF K mg C_BadStep a_BadStep_init fd_BadStep_init "BadStep.__init__" s_BadStep_init file "rule"
  b_BadStep_init : L2.Binds K fd_BadStep_init [("self" : Str), "rule"] []
  z_super : mg "super" = none
  C_PlayError : Addr
  g_PlayError : mg "PlayError" = some (.ref C_PlayError)
  kc_PlayError : PySem.W.keepIn K (.ref C_PlayError) = true
  xb_PlayError : PySem.W.subIn K (.ref C_PlayError) (.type "BaseException") = some true
  xt_PlayError : PySem.W.typeIn K (.ref C_PlayError) = some (.type "type")
  xd_PlayError : PySem.W.hasDictIn K C_PlayError = true
  C_BadBound : Addr
  g_BadBound : mg "BadBound" = some (.ref C_BadBound)
  C_BadCall : Addr
  g_BadCall : mg "BadCall" = some (.ref C_BadCall)
  C_BadPlayer : Addr
  g_BadPlayer : mg "BadPlayer" = some (.ref C_BadPlayer)
  C_BadText : Addr
  g_BadText : mg "BadText" = some (.ref C_BadText)
  C_TooLarge : Addr
  g_TooLarge : mg "TooLarge" = some (.ref C_TooLarge)
  ec_BadStep : ExcC K C_BadStep
  a_OPERATORS : Addr
  g_OPERATORS : mg "OPERATORS" = some (.ref a_OPERATORS)
  q_OPERATORS : ∀ H, SqT K H a_OPERATORS ((["+", "-", "*", "/", "mod", "<", "="] : List Str).map V.str)
  a_LOOKS : Addr
  g_LOOKS : mg "LOOKS" = some (.ref a_LOOKS)
  q_LOOKS : ∀ H, SqT K H a_LOOKS ((["has", "cell"] : List Str).map V.str)
  a_BAD : Addr
  g_BAD : mg "BAD" = some (.ref a_BAD)
  q_BAD : ∀ H, SqT K H a_BAD ((["bad", ""] : List Str).map V.str)
  a_RULES : Addr
  g_RULES : mg "RULES" = some (.ref a_RULES)
  ns_RULES_0 : PySem.W.nsIn K a_RULES "swap" = some (some (.ref a_swap_step))
  ns_RULES_1 : PySem.W.nsIn K a_RULES "drop" = some (some (.ref a_drop_step))
  z_len : mg "len" = none
  z_range : mg "range" = none
  z_int : mg "int" = none
  z_tuple : mg "tuple" = none
  z_list : mg "list" = none
  z_isinstance : mg "isinstance" = none
  z_abs : mg "abs" = none
  z_max : mg "max" = none
  z_zip : mg "zip" = none
  z_any : mg "any" = none
  z_set : mg "set" = none
  xga_BadStep : PySem.W.findIn K (.ref C_BadStep) "__getattribute__" = some (some (.builtin "BaseException.__getattribute__"))
  xgg_BadStep : PySem.W.findIn K (.ref C_BadStep) "__getattr__" = some none
  sub_sp : PySem.W.subIn K (.ref C_BadStep) (.ref C_PlayError) = some true
  ki_s : PySem.W.kitOne K (.ref C_BadStep) (.ref C_BadStep) = some true
  ki_e : PySem.W.kitAny K (.ref C_BadStep) [.ref C_BadBound, .ref C_BadCall, .ref C_BadPlayer, .ref C_BadText, .ref C_TooLarge] = some false
  a_FORMS : Addr
  g_FORMS : mg "FORMS" = some (.ref a_FORMS)
section
variable {P : Program} {w : World} {K : PySem.W.Frag} {mg : Str → Option Value} {base : Heap} {file : Str}
theorem ok_cell (T : Txt K mg file) : FnOk P w K mg base CX0 1 T.a_law_cell T.fd_law_cell ["script", "k"] (spCell K) := by
  refine T.F_law_cell.ok sc_law_cell (fun vs H Q E h => ?_) (fun cdv A outer s H vs Q E hr h => ?_)
  · obtain ⟨a, ns, k, rfl, _⟩ := h
    rfl
  obtain ⟨a, ns, k, rfl, hS, h0, q⟩ := h
  refine ⟨_, (pss_cons (ps_if (pt_cmpR op_lt (pv 1) (pe_callB call_len_seq (by rfl) T.z_len (by decide +kernel) (pa_cons (pv 0) pa_nil)) (nomark _))
      (pss_one (ps_ret (pe_ix ix_list (pv 0) (pv 1) (fun _ _ => rfl))))
      pss_nil)
    (pss_one (ps_ret pe_int))), ?_⟩
  refine ⟨_, rfl, _, rfl, a, _, rfl, .inl hS, _, _, rfl, rfl, _, rfl, ?_⟩
  refine ite2 (fun c => ?_) (fun c => ?_)
  · have c' := of_decide_eq_true c
    rw [List.length_map] at c'
    have hk : k.toNat < ns.length := by omega
    have e : atI (ns.map V.int) k = some (.int (ns.getD k.toNat 0)) := at_of (j := k.toNat) (by omega) (by rw [List.getElem?_map, List.getElem?_eq_getElem hk, List.getD_eq_getElem?_getD, List.getElem?_eq_getElem hk] <;> rfl)
    exact ⟨_, rfl, _, rfl, a, _, _, _, rfl, rfl, hS, e, q⟩
  · have c' := of_decide_eq_false (Bool.eq_false_iff.mpr c)
    rw [List.length_map] at c'
    have e : ns.getD k.toNat 0 = 0 := by rw [List.getD_eq_getElem?_getD, List.getElem?_eq_none (by omega)] <;> rfl
    rw [e] at q
    exact q
theorem ok_row (T : Txt K mg file) : FnOk P w K mg base CX0 1 T.a_law_row T.fd_law_row ["cell", "count", "size"] spRow := by
  refine T.F_law_row.ok sc_law_row (fun vs H Q E h => ?_) (fun cdv A outer s H vs Q E hr h => ?_)
  · obtain ⟨c, n, z, rfl, _⟩ := h
    rfl
  obtain ⟨cell, count, size, rfl, c0, c1, s0, s1, q⟩ := h
  refine ⟨_, (pss_cons (ps_set (i := 3) sc_law_row.nd rfl (Or.inl rfl) (pv 0))
    (pss_cons (ps_set (i := 4) sc_law_row.nd rfl (Or.inl rfl) (pe_lst pa_nil))
    (pss_cons (ps_for PassesOwn.never rfl (pi_range1 (by rfl) T.z_range (pa_cons (pv 1) pa_nil)) (pg_name (i := 5) sc_law_row.nd rfl (Or.inl rfl))
      (pss_one (ps_if (pt_cmpR op_ge (pv 0) (pe_op op_pow pe_int pe_int) (nomark _))
      (pss_cons (ps_expr (pe_bm PySem.F.plainAttrs_list PySem.F.slot_list_append PySem.F.type_list_append mt_append (pv 4) (pa_cons (pe_op op_mod (pe_callTy call_int1 (by rfl) T.z_int (by decide +kernel) (pa_cons (pv 3) pa_nil)) (pv 2)) pa_nil)))
    (pss_one (ps_set (i := 3) sc_law_row.nd rfl (Or.inl rfl) (pe_op op_fdivW (pv 3) (pv 2)))))
      (pss_cons (ps_set (i := 3) sc_law_row.nd rfl (Or.inl rfl) (pe_op op_mod (pe_op op_add (pe_op op_mul (pv 3) pe_int) pe_int) pe_int))
    (pss_one (ps_expr (pe_bm PySem.F.plainAttrs_list PySem.F.slot_list_append PySem.F.type_list_append mt_append (pv 4) (pa_cons (pe_op op_mod (pe_op op_mod (pe_callTy call_int1 (by rfl) T.z_int (by decide +kernel) (pa_cons (pe_op op_add (pe_op op_mul (pv 3) pe_int) (pe_op op_mul (pv 5) pe_int)) pa_nil)) pe_int) (pv 2)) pa_nil))))))))
    (pss_one (ps_ret (pv 4)))))), ?_⟩
  refine ⟨_, rfl, (by show 0 ≤ sizeLine; decide), fun l hl => ?_⟩
  refine ⟨_, rfl, _, rfl, by omega, by omega, for_range (lo := 0) (n := count.toNat) (fun i σ H' => ∃ (st : Int) (ns : List Int) (kV : Option V), σ = [some (.int cell), some (.int count), some (.int size), some (.int st), some (.ref l), kV] ∧
    Same H H' ∧ H' l = some (.lst (ns.map V.int)) ∧ ns.length = i ∧ ∀ x ∈ ns, 0 ≤ x ∧ x < size) ⟨cell, [], none, rfl, same_new hl _, upd_same, rfl, fun x hx => nomatch hx⟩ ?_ ?_⟩
  · rintro i σ H' hi ⟨st, ns, kV, rfl, m, hL, hn, hb⟩
    have big : ns.length < sizeLine := small1000 (by omega)
    have nl : ∀ b o, H b = some o → b ≠ l := fun b o e => ne_of_none e hl
    have fin : ∀ (st' y : Int) (H2 : Hp), 0 ≤ y → y < size → H2 = upd H' l (.lst (ns.map V.int ++ [.int y])) → ∃ (st'' : Int) (ns' : List Int) (kV : Option V), ([some (.int cell), some (.int count), some (.int size), some (.int st'), some (.ref l), some (.int (0 + (i : Int)))] : List (Option V)) =
        [some (.int cell), some (.int count), some (.int size), some (.int st''), some (.ref l), kV] ∧ Same H H2 ∧ H2 l = some (.lst (ns'.map V.int)) ∧ ns'.length = i + 1 ∧ ∀ x ∈ ns', 0 ≤ x ∧ x < size := by
      intro st' y H2 h0 h1 e
      subst e
      refine ⟨st', ns ++ [y], _, rfl, fun b o z => by rw [upd_ne (nl b o z)]; exact m b o z, by rw [upd_same, List.map_append]; all_goals rfl, by rw [List.length_append, hn]; all_goals rfl, fun x hx => ?_⟩
      rcases List.mem_append.mp hx with z | z
      · exact hb x z
      · rw [List.mem_singleton.mp z]
        exact ⟨h0, h1⟩
    refine ⟨_, rfl, _, _, rfl, rfl, ⟨by decide, by decide, by decide⟩, _, _, rfl, rfl, _, rfl, ?_⟩
    refine ite2 (fun c => ?_) (fun c => ?_)
    · refine ⟨_, rfl, .inl ⟨rfl, _, SqL.of hL⟩, _, rfl, .inl ⟨_, rfl, _, rfl, _, _, rfl, rfl, s0, l, _, _, rfl, rfl, hL, (by rw [List.length_map]; exact big), ?_⟩⟩
      refine ⟨_, rfl, _, rfl, _, _, rfl, rfl, wide_div s0 s1 (by decide) (by decide), ?_⟩
      exact fin _ _ _ (Int.emod_nonneg _ (by omega)) (Int.emod_lt_of_pos _ s0) rfl
    · refine ⟨_, rfl, _, _, rfl, rfl, .inr ⟨by decide, by decide⟩, _, _, rfl, rfl, _, _, rfl, rfl, (by show (0 : Int) < 2147483647; decide), ?_⟩
      refine ⟨_, rfl, .inl ⟨rfl, _, SqL.of hL⟩, _, rfl, _, _, rfl, rfl, .inr ⟨by decide, by decide⟩, _, rfl, _, _, rfl, rfl, .inr ⟨by decide, by decide⟩, _, _, rfl, rfl, .inl ⟨_, rfl, ?_⟩⟩
      refine ⟨_, _, rfl, rfl, (by show (0 : Int) < 2147483647; decide), _, rfl, _, _, rfl, rfl, s0, l, _, _, rfl, rfl, hL, (by rw [List.length_map]; exact big), ?_⟩
      exact fin _ _ _ (Int.emod_nonneg _ (by omega)) (Int.emod_lt_of_pos _ s0) rfl
  · rintro σ H' ⟨st, ns, kV, rfl, m, hL, hn, hb⟩
    exact ⟨_, rfl, q l ns H' m hL hn hb⟩
theorem num_ok {sc : Sc} (a m : Int) (k : Nat) (h1 : 0 < m) (h2 : m ≤ 65535) : (Ex.num (a % m)).Ok sc (k + 1) := by
  have e0 := Int.emod_nonneg a (by omega : m ≠ 0)
  have e1 := Int.emod_lt_of_pos a h1
  exact ⟨e0, by omega⟩
theorem dp_num {H : Hp} {p : Addr} (hp : H p = none) (n : Int) : Dp K (upd H p (.tup [.str "number", .int n])) (.ref p) (Ex.num n).d := by unfold Ex.d; exact dp_tup hp (.cons (.str _) (.cons (.int _) .nil))
theorem dp_loc {H : Hp} {p : Addr} (hp : H p = none) (x : Str) : Dp K (upd H p (.tup [.str "local", .str x])) (.ref p) (Ex.loc x).d := by unfold Ex.d; exact dp_tup hp (.cons (.str _) (.cons (.str _) .nil))
theorem dp_var {H : Hp} {p : Addr} (hp : H p = none) (x : Str) : Dp K (upd H p (.tup [.str "variable", .str x])) (.ref p) (Ex.var x).d := by unfold Ex.d; exact dp_tup hp (.cons (.str _) (.cons (.str _) .nil))
theorem dp_has {H : Hp} {p : Addr} (hp : H p = none) (t : Str) {v : V} {e : Ex} (d : Dp K H v e.d) : Dp K (upd H p (.tup [.str "has", .str t, v])) (.ref p) (Ex.has t e).d := by
  show Dp K _ _ (.tuple [.str "has", .str t, e.d]); exact dp_tup hp (.cons (.str _) (.cons (.str _) (.cons d .nil)))
theorem dp_cell {H : Hp} {p : Addr} (hp : H p = none) (t : Str) {v : V} {e : Ex} (d : Dp K H v e.d) : Dp K (upd H p (.tup [.str "cell", .str t, v])) (.ref p) (Ex.cell t e).d := by
  show Dp K _ _ (.tuple [.str "cell", .str t, e.d]); exact dp_tup hp (.cons (.str _) (.cons (.str _) (.cons d .nil)))
theorem dp_op {H : Hp} {p : Addr} (hp : H p = none) (o : Str) {v u : V} {e f : Ex} (d : Dp K H v e.d) (d' : Dp K H u f.d) : Dp K (upd H p (.tup [.str o, v, u])) (.ref p) (Ex.op o e f).d := by
  show Dp K _ _ (.tuple [.str o, e.d, f.d]); exact dp_tup hp (.cons (.str _) (.cons d (.cons d' .nil)))
theorem ok_side (T : Txt K mg file) : FnOk P w K mg base CX0 1 T.a_law_side T.fd_law_side ["code", "names", "variables", "tables"] (spSide K 2) := by
  refine T.F_law_side.ok sc_law_side (fun vs H Q E h => ?_) (fun cdv A outer s H vs Q E hr h => ?_)
  · obtain ⟨c, na, va, ta, s, rfl, _⟩ := h
    rfl
  obtain ⟨code, na, va, ta, sc, rfl, hA, q⟩ := h
  refine ⟨_, (pss_cons (ps_set (i := 4) sc_law_side.nd rfl (Or.inl rfl) (pe_op op_mod (pe_callTy call_int1 (by rfl) T.z_int (by decide +kernel) (pa_cons (pv 0) pa_nil)) pe_int))
    (pss_cons (ps_set (i := 5) sc_law_side.nd rfl (Or.inl rfl) (pe_op op_fdivW (pe_callTy call_int1 (by rfl) T.z_int (by decide +kernel) (pa_cons (pv 0) pa_nil)) pe_int))
    (pss_cons (ps_set (i := 6) sc_law_side.nd rfl (Or.inl rfl) (pe_tup (pa_cons pe_str (pa_cons (pe_ix ix_tup (pv 1) (pe_op op_mod (pv 5) (pe_callB call_len_seq (by rfl) T.z_len (by decide +kernel) (pa_cons (pv 1) pa_nil))) (fun _ _ => rfl)) pa_nil))))
    (pss_cons (ps_if (pt_cmpR op_lt (pv 4) pe_int (nomark _))
      (pss_one (ps_ret (pv 6)))
      pss_nil)
    (pss_cons (ps_if (PW.pt (pw_and (pt_cmpR op_eq (pv 4) pe_int (nomark _)) (pw_and1 (pt_cmpR op_gt (pe_callB call_len_seq (by rfl) T.z_len (by decide +kernel) (pa_cons (pv 2) pa_nil)) pe_int (nomark _)))))
      (pss_one (ps_ret (pe_tup (pa_cons pe_str (pa_cons (pe_ix ix_list (pv 2) (pe_op op_mod (pv 5) (pe_callB call_len_seq (by rfl) T.z_len (by decide +kernel) (pa_cons (pv 2) pa_nil))) (fun _ _ => rfl)) pa_nil)))))
      pss_nil)
    (pss_cons (ps_if (PW.pt (pw_and (pt_cmpR op_eq (pv 4) pe_int (nomark _)) (pw_and1 (pt_cmpR op_gt (pe_callB call_len_seq (by rfl) T.z_len (by decide +kernel) (pa_cons (pv 3) pa_nil)) pe_int (nomark _)))))
      (pss_one (ps_ret (pe_tup (pa_cons (pe_ix ix_tup (pe_tup (pa_cons pe_str (pa_cons pe_str pa_nil))) (pe_op op_mod (pv 5) pe_int) (fun _ _ => rfl)) (pa_cons (pe_ix ix_list (pv 3) (pe_op op_mod (pe_op op_fdivW (pv 5) pe_int) (pe_callB call_len_seq (by rfl) T.z_len (by decide +kernel) (pa_cons (pv 3) pa_nil))) (fun _ _ => rfl)) (pa_cons (pv 6) pa_nil))))))
      pss_nil)
    (pss_cons (ps_if (pt_cmpR op_eq (pv 4) pe_int (nomark _))
      (pss_one (ps_ret (pe_tup (pa_cons (pe_ix ix_tup (pe_tup (pa_cons pe_str (pa_cons pe_str (pa_cons pe_str (pa_cons pe_str (pa_cons pe_str (pa_cons pe_str (pa_cons pe_str pa_nil)))))))) (pe_op op_mod (pe_op op_fdivW (pv 5) pe_int) pe_int) (fun _ _ => rfl)) (pa_cons (pv 6) (pa_cons (pe_tup (pa_cons pe_str (pa_cons (pe_op op_mod (pe_op op_fdivW (pv 5) pe_int) pe_int) pa_nil))) pa_nil))))))
      pss_nil)
    (pss_cons (ps_if (PW.pt (pw_and (pt_cmpR op_eq (pv 4) pe_int (nomark _)) (pw_and1 (pt_cmpR op_eq (pe_op op_mod (pv 5) pe_int) pe_int (nomark _)))))
      (pss_cons (ps_set (i := 7) sc_law_side.nd rfl (Or.inl rfl) (pe_ix ix_tup (pe_tup (pa_cons pe_str (pa_cons pe_str (pa_cons pe_str (pa_cons pe_str (pa_cons pe_str (pa_cons pe_str (pa_cons pe_str pa_nil)))))))) (pe_op op_mod (pe_op op_fdivW (pv 5) pe_int) pe_int) (fun _ _ => rfl)))
    (pss_one (ps_ret (pe_tup (pa_cons (pv 7) (pa_cons (pe_tup (pa_cons pe_str (pa_cons (pe_op op_mod (pe_op op_fdivW (pv 5) pe_int) pe_int) pa_nil))) (pa_cons (pe_tup (pa_cons pe_str (pa_cons (pe_op op_mod (pe_op op_fdivW (pv 5) pe_int) pe_int) pa_nil))) pa_nil)))))))
      pss_nil)
    (pss_one (ps_ret (pe_tup (pa_cons pe_str (pa_cons (pe_op op_mod (pv 5) pe_int) pa_nil))))))))))))), ?_⟩
  have two : (2 : Nat) ≤ sizeLine := by decide
  have three : (3 : Nat) ≤ sizeLine := by decide
  have seven : (7 : Nat) ≤ sizeLine := by decide
  refine ⟨_, rfl, .inl ⟨_, rfl, _, _, rfl, rfl, (by show (0 : Int) < 6; decide), ?_⟩⟩
  refine ⟨_, rfl, .inl ⟨_, rfl, _, _, rfl, rfl, ⟨by decide, by decide⟩, ?_⟩⟩
  dsimp only
  generalize code / 6 = r
  generalize code % 6 = pk
  obtain ⟨x, hx, ex⟩ := pick_mem (r := r) hA.n0
  refine ⟨_, rfl, _, rfl, _, rfl, na, _, rfl, .inr hA.n, _, _, rfl, rfl, len_pos hA.n0, na, _, _, _, rfl, rfl, hA.n, ex, two, fun p hp => ?_⟩
  have m1 := same_new hp (.tup [.str "local", .str x])
  have hA1 := hA.mono m1
  have d1 : Dp K (upd H p (.tup [.str "local", .str x])) (.ref p) (Ex.loc x).d := by unfold Ex.d; exact dp_tup hp (.cons (.str _) (.cons (.str _) .nil))
  have o1 : (Ex.loc x).Ok sc 1 := hx
  generalize upd H p (.tup [.str "local", .str x]) = H1 at *
  refine ⟨_, rfl, _, _, rfl, rfl, _, rfl, ite2 (fun c => ?_) (fun c1 => ?_)⟩
  · exact ⟨_, rfl, q _ _ _ m1 d1 (o1.mono (by decide))⟩
  -- a variable
  refine ⟨_, rfl, rfl, _, rfl, and_if ?_ fun _ rest => ?_⟩
  rotate_left
  · refine ⟨_, rfl, va, _, rfl, .inl hA1.v, _, _, rfl, rfl, _, rfl, ite2 (fun c => ?_) (fun _ => rest)⟩
    have v0 := ne_of_len c
    obtain ⟨y, hy, ey⟩ := pick_mem (r := r) v0
    refine ⟨_, rfl, _, rfl, _, rfl, va, _, rfl, .inl hA1.v, _, _, rfl, rfl, len_pos v0, va, _, _, _, rfl, rfl, hA1.v, ey, two, fun p2 hp2 => ?_⟩
    refine q _ (.var y) _ (m1.trans (same_new hp2 _)) ?_ (show y ∈ sc.vars from hy)
    unfold Ex.d
    exact dp_tup hp2 (.cons (.str _) (.cons (.str _) .nil))
  -- a look at a table
  refine ⟨_, rfl, rfl, _, rfl, and_if ?_ fun _ rest => ?_⟩
  rotate_left
  · refine ⟨_, rfl, ta, _, rfl, .inl hA1.t, _, _, rfl, rfl, _, rfl, ite2 (fun c => ?_) (fun _ => rest)⟩
    have t0 := ne_of_len c
    obtain ⟨y, hy, ey⟩ := pick_mem (r := r / 2) t0
    refine ⟨two, fun p2 hp2 => ?_⟩
    have m2 := same_new hp2 (.tup [.str "has", .str "cell"])
    have hA2 := hA1.mono m2
    have d2 := dp_mono m2 _ _ d1
    have go : ∀ h : Str, (h = "has" ∨ h = "cell") → ∀ H3, Same H H3 → At K sc H3 na va ta → Dp K H3 (.ref p) (Ex.loc x).d →
        tTup (fun σ H' Q' => Q' [.str h, .str y, .ref p] H') [] H3 Q := by
      intro h hh H3 m3 hA3 d3
      refine ⟨three, fun p4 hp4 => ?_⟩
      rcases hh with rfl | rfl
      · refine q _ (.has y (.loc x)) _ (m3.trans (same_new hp4 _)) ?_ ⟨hy, hx⟩
        unfold Ex.d
        exact dp_tup hp4 (.cons (.str _) (.cons (.str _) (.cons d3 .nil)))
      · refine q _ (.cell y (.loc x)) _ (m3.trans (same_new hp4 _)) ?_ ⟨hy, hx⟩
        unfold Ex.d
        exact dp_tup hp4 (.cons (.str _) (.cons (.str _) (.cons d3 .nil)))
    rcases pick_two (a := V.str "has") (b := V.str "cell") (r := r) with e2 | e2
    · refine ⟨_, rfl, _, _, rfl, rfl, (by show (0 : Int) < 2; decide), p2, _, _, _, rfl, rfl, SqT.of upd_same, e2, ?_⟩
      refine ⟨_, rfl, _, rfl, _, _, rfl, rfl, ⟨by decide, by decide⟩, _, rfl, ta, _, rfl, .inl hA2.t, _, _, rfl, rfl, len_pos t0, ta, _, _, _, rfl, rfl, hA2.t, ey, _, rfl, ?_⟩
      exact go _ (.inl rfl) _ (m1.trans m2) hA2 d2
    · refine ⟨_, rfl, _, _, rfl, rfl, (by show (0 : Int) < 2; decide), p2, _, _, _, rfl, rfl, SqT.of upd_same, e2, ?_⟩
      refine ⟨_, rfl, _, rfl, _, _, rfl, rfl, ⟨by decide, by decide⟩, _, rfl, ta, _, rfl, .inl hA2.t, _, _, rfl, rfl, len_pos t0, ta, _, _, _, rfl, rfl, hA2.t, ey, _, rfl, ?_⟩
      exact go _ (.inr rfl) _ (m1.trans m2) hA2 d2
  -- an operator on a local and a number
  have numok : ∀ (a m : Int) (k : Nat), 0 < m → m ≤ 65535 → (Ex.num (a % m)).Ok sc (k + 1) := fun a m k h1 h2 => by
    have e0 := Int.emod_nonneg a (by omega : m ≠ 0)
    have e1 := Int.emod_lt_of_pos a h1
    exact ⟨e0, by omega⟩
  refine ⟨_, rfl, rfl, _, rfl, ite2 (fun _ => ?_) (fun _ => ?_)⟩
  · refine ⟨seven, fun p2 hp2 => ?_⟩
    have m2 := same_new hp2 (.tup [.str "+", .str "-", .str "*", .str "/", .str "mod", .str "<", .str "="])
    have hA2 := hA1.mono m2
    have d2 := dp_mono m2 _ _ d1
    obtain ⟨o, ho, eo⟩ := pick_op (r := r / 3)
    refine ⟨_, rfl, _, _, rfl, rfl, ⟨by decide, by decide⟩, _, _, rfl, rfl, (by show (0 : Int) < 7; decide), p2, _, _, _, rfl, rfl, SqT.of upd_same, eo, ?_⟩
    refine ⟨_, rfl, _, rfl, _, _, rfl, rfl, ⟨by decide, by decide⟩, _, _, rfl, rfl, (by show (0 : Int) < 4; decide), two, fun p3 hp3 => ?_⟩
    have m3 := same_new hp3 (.tup [.str "number", .int (r / 21 % 4)])
    have d3 := dp_num (K := K) hp3 (r / 21 % 4)
    refine ⟨three, fun p4 hp4 => ?_⟩
    refine q _ (.op o (.loc x) (.num (r / 21 % 4))) _ (m1.trans (m2.trans (m3.trans (same_new hp4 _)))) ?_ ⟨ho, hx, numok _ _ 0 (by decide) (by decide)⟩
    show Dp K _ _ (.tuple [.str o, (Ex.loc x).d, (Ex.num (r / 21 % 4)).d])
    exact dp_tup hp4 (.cons (.str _) (.cons (dp_mono m3 _ _ d2) (.cons d3 .nil)))
  -- an operator on numbers
  refine ⟨_, rfl, rfl, _, rfl, and_if ?_ fun _ rest => ?_⟩
  rotate_left
  · refine ⟨_, rfl, _, _, rfl, rfl, (by show (0 : Int) < 3; decide), rfl, _, rfl, ite2 (fun c => ?_) (fun _ => rest)⟩
    refine ⟨seven, fun p2 hp2 => ?_⟩
    have m2 := same_new hp2 (.tup [.str "+", .str "-", .str "*", .str "/", .str "mod", .str "<", .str "="])
    obtain ⟨o, ho, eo⟩ := pick_op (r := r / 3)
    refine ⟨_, rfl, _, _, rfl, rfl, ⟨by decide, by decide⟩, _, _, rfl, rfl, (by show (0 : Int) < 7; decide), p2, _, _, _, rfl, rfl, SqT.of upd_same, eo, ?_⟩
    refine ⟨_, rfl, _, rfl, _, _, rfl, rfl, ⟨by decide, by decide⟩, _, _, rfl, rfl, (by show (0 : Int) < 3; decide), two, fun p3 hp3 => ?_⟩
    have m3 := same_new hp3 (.tup [.str "number", .int (r / 21 % 3)])
    have d3 := dp_num (K := K) hp3 (r / 21 % 3)
    refine ⟨_, rfl, _, _, rfl, rfl, ⟨by decide, by decide⟩, _, _, rfl, rfl, (by show (0 : Int) < 4; decide), two, fun p4 hp4 => ?_⟩
    have m4 := same_new hp4 (.tup [.str "number", .int (r / 63 % 4)])
    have d4 := dp_num (K := K) hp4 (r / 63 % 4)
    refine ⟨three, fun p5 hp5 => ?_⟩
    refine q _ (.op o (.num (r / 21 % 3)) (.num (r / 63 % 4))) _ (m1.trans (m2.trans (m3.trans (m4.trans (same_new hp5 _))))) ?_ ⟨ho, numok _ _ 0 (by decide) (by decide), numok _ _ 0 (by decide) (by decide)⟩
    show Dp K _ _ (.tuple [.str o, (Ex.num (r / 21 % 3)).d, (Ex.num (r / 63 % 4)).d])
    exact dp_tup hp5 (.cons (.str _) (.cons (dp_mono m4 _ _ d3) (.cons d4 .nil)))
  -- a number
  refine ⟨_, rfl, _, _, rfl, rfl, (by show (0 : Int) < 4; decide), two, fun p2 hp2 => ?_⟩
  refine q _ (.num (r % 4)) _ (m1.trans (same_new hp2 _)) ?_ (numok _ _ 1 (by decide) (by decide))
  unfold Ex.d
  exact dp_tup hp2 (.cons (.str _) (.cons (.int _) .nil))
theorem ok_value (T : Txt K mg file) : FnOk P w K mg base CX0 2 T.a_law_value T.fd_law_value ["cell", "names", "variables", "tables"] (spSide K 3) := by
  have G_law_side : FnOk P w K mg base CX0 1 T.a_law_side T.fd_law_side ["code", "names", "variables", "tables"] (spSide K 2) := ok_side T
  refine T.F_law_value.ok sc_law_value (fun vs H Q E h => ?_) (fun cdv A outer s H vs Q E hr h => ?_)
  · obtain ⟨c, na, va, ta, s, rfl, _⟩ := h
    rfl
  obtain ⟨code, na, va, ta, sc, rfl, hA, q⟩ := h
  refine ⟨_, (pss_cons (ps_set (i := 4) sc_law_value.nd rfl (Or.inl rfl) (pe_op op_mod (pe_callTy call_int1 (by rfl) T.z_int (by decide +kernel) (pa_cons (pv 0) pa_nil)) pe_int))
    (pss_cons (ps_set (i := 5) sc_law_value.nd rfl (Or.inl rfl) (pe_op op_fdivW (pe_callTy call_int1 (by rfl) T.z_int (by decide +kernel) (pa_cons (pv 0) pa_nil)) pe_int))
    (pss_cons (ps_if (pt_cmpR op_lt (pv 4) pe_int (nomark _))
      (pss_one (ps_ret (pe_tup (pa_cons pe_str (pa_cons (pe_ix ix_tup (pv 1) (pe_op op_mod (pv 5) (pe_callB call_len_seq (by rfl) T.z_len (by decide +kernel) (pa_cons (pv 1) pa_nil))) (fun _ _ => rfl)) pa_nil)))))
      pss_nil)
    (pss_cons (ps_if (PW.pt (pw_and (pt_cmpR op_eq (pv 4) pe_int (nomark _)) (pw_and1 (pt_cmpR op_gt (pe_callB call_len_seq (by rfl) T.z_len (by decide +kernel) (pa_cons (pv 2) pa_nil)) pe_int (nomark _)))))
      (pss_one (ps_ret (pe_tup (pa_cons pe_str (pa_cons (pe_ix ix_list (pv 2) (pe_op op_mod (pv 5) (pe_callB call_len_seq (by rfl) T.z_len (by decide +kernel) (pa_cons (pv 2) pa_nil))) (fun _ _ => rfl)) pa_nil)))))
      pss_nil)
    (pss_cons (ps_if (PW.pt (pw_and (pt_cmpR op_eq (pv 4) pe_int (nomark _)) (pw_and1 (pt_cmpR op_gt (pe_callB call_len_seq (by rfl) T.z_len (by decide +kernel) (pa_cons (pv 3) pa_nil)) pe_int (nomark _)))))
      (pss_cons (ps_set (i := 6) sc_law_value.nd rfl (Or.inl rfl) (pe_call G_law_side (hr.mono (by decide)) rfl T.g_law_side T.k_law_side T.b_law_side .nil pass0 (pa_cons (pe_op op_fdivW (pv 5) pe_int) (pa_cons (pv 1) (pa_cons (pv 2) (pa_cons (pv 3) pa_nil))))))
    (pss_one (ps_ret (pe_tup (pa_cons (pe_ix ix_tup (pe_tup (pa_cons pe_str (pa_cons pe_str pa_nil))) (pe_op op_mod (pv 5) pe_int) (fun _ _ => rfl)) (pa_cons (pe_ix ix_list (pv 3) (pe_op op_mod (pe_op op_fdivW (pv 5) pe_int) (pe_callB call_len_seq (by rfl) T.z_len (by decide +kernel) (pa_cons (pv 3) pa_nil))) (fun _ _ => rfl)) (pa_cons (pv 6) pa_nil)))))))
      pss_nil)
    (pss_cons (ps_set (i := 7) sc_law_value.nd rfl (Or.inl rfl) (pe_ix ix_tup (pe_tup (pa_cons pe_str (pa_cons pe_str (pa_cons pe_str (pa_cons pe_str (pa_cons pe_str (pa_cons pe_str (pa_cons pe_str pa_nil)))))))) (pe_op op_mod (pv 5) pe_int) (fun _ _ => rfl)))
    (pss_cons (ps_if (pt_cmpR op_eq (pv 4) pe_int (nomark _))
      (pss_one (ps_ret (pe_tup (pa_cons (pv 7) (pa_cons (pe_call G_law_side (hr.mono (by decide)) rfl T.g_law_side T.k_law_side T.b_law_side .nil pass0 (pa_cons (pe_op op_fdivW (pv 5) pe_int) (pa_cons (pv 1) (pa_cons (pv 2) (pa_cons (pv 3) pa_nil))))) (pa_cons (pe_call G_law_side (hr.mono (by decide)) rfl T.g_law_side T.k_law_side T.b_law_side .nil pass0 (pa_cons (pe_op op_fdivW (pv 5) pe_int) (pa_cons (pv 1) (pa_cons (pv 2) (pa_cons (pv 3) pa_nil))))) pa_nil))))))
      pss_nil)
    (pss_cons (ps_if (pt_cmpR op_eq (pv 4) pe_int (nomark _))
      (pss_cons (ps_set (i := 8) sc_law_value.nd rfl (Or.inl rfl) (pe_tup (pa_cons pe_str (pa_cons (pe_op op_mod (pe_op op_fdivW (pv 5) pe_int) pe_int) pa_nil))))
    (pss_one (ps_ret (pe_tup (pa_cons (pv 7) (pa_cons (pv 8) (pa_cons (pe_ix ix_tup (pe_tup (pa_cons (pe_tup (pa_cons pe_str (pa_cons (pe_op op_mod (pe_op op_fdivW (pv 5) pe_int) pe_int) pa_nil))) (pa_cons (pe_call G_law_side (hr.mono (by decide)) rfl T.g_law_side T.k_law_side T.b_law_side .nil pass0 (pa_cons (pe_op op_fdivW (pv 5) pe_int) (pa_cons (pv 1) (pa_cons (pv 2) (pa_cons (pv 3) pa_nil))))) pa_nil))) (pe_op op_mod (pe_op op_fdivW (pv 5) pe_int) pe_int) (fun _ _ => rfl)) pa_nil)))))))
      pss_nil)
    (pss_one (ps_ret (pe_tup (pa_cons pe_str (pa_cons (pe_ix ix_tup (pe_tup (pa_cons (pe_op op_mod (pv 5) pe_int) (pa_cons (pe_op op_mod (pv 5) pe_int) (pa_cons (pe_op op_mod (pv 5) pe_int) (pa_cons (pe_op op_sub pe_int (pe_op op_mod (pv 5) pe_int)) pa_nil))))) (pe_op op_mod (pe_op op_fdivW (pv 5) pe_int) pe_int) (fun _ _ => rfl)) pa_nil))))))))))))), ?_⟩
  have two : (2 : Nat) ≤ sizeLine := by decide
  have three : (3 : Nat) ≤ sizeLine := by decide
  have four : (4 : Nat) ≤ sizeLine := by decide
  have seven : (7 : Nat) ≤ sizeLine := by decide
  refine ⟨_, rfl, .inl ⟨_, rfl, _, _, rfl, rfl, (by show (0 : Int) < 8; decide), ?_⟩⟩
  refine ⟨_, rfl, .inl ⟨_, rfl, _, _, rfl, rfl, ⟨by decide, by decide⟩, ?_⟩⟩
  dsimp only
  generalize code / 8 = r
  generalize code % 8 = pk
  obtain ⟨x, hx, ex⟩ := pick_mem (r := r) hA.n0
  -- a local
  refine ⟨_, rfl, _, _, rfl, rfl, _, rfl, ite2 (fun c => ?_) (fun c1 => ?_)⟩
  · refine ⟨_, rfl, _, rfl, _, rfl, na, _, rfl, .inr hA.n, _, _, rfl, rfl, len_pos hA.n0, na, _, _, _, rfl, rfl, hA.n, ex, two, fun p hp => ?_⟩
    exact q _ (.loc x) _ (same_new hp _) (dp_loc hp x) (show x ∈ sc.locs from hx)
  -- a variable
  refine ⟨_, rfl, rfl, _, rfl, and_if ?_ fun _ rest => ?_⟩
  rotate_left
  · refine ⟨_, rfl, va, _, rfl, .inl hA.v, _, _, rfl, rfl, _, rfl, ite2 (fun c => ?_) (fun _ => rest)⟩
    have v0 := ne_of_len c
    obtain ⟨y, hy, ey⟩ := pick_mem (r := r) v0
    refine ⟨_, rfl, _, rfl, _, rfl, va, _, rfl, .inl hA.v, _, _, rfl, rfl, len_pos v0, va, _, _, _, rfl, rfl, hA.v, ey, two, fun p2 hp2 => ?_⟩
    exact q _ (.var y) _ (same_new hp2 _) (dp_var hp2 y) (show y ∈ sc.vars from hy)
  -- a look at a table
  refine ⟨_, rfl, rfl, _, rfl, and_if ?_ fun _ rest => ?_⟩
  rotate_left
  · refine ⟨_, rfl, ta, _, rfl, .inl hA.t, _, _, rfl, rfl, _, rfl, ite2 (fun c => ?_) (fun _ => rest)⟩
    have t0 := ne_of_len c
    obtain ⟨y, hy, ey⟩ := pick_mem (r := r / 2) t0
    refine ⟨_, rfl, _, _, rfl, rfl, ⟨by decide, by decide⟩, _, rfl, _, rfl, _, rfl, _, na, va, ta, sc, rfl, hA, fun v e H1 m1 d1 o1 => ?_⟩
    have hA1 := hA.mono m1
    refine ⟨two, fun p2 hp2 => ?_⟩
    have m2 := same_new hp2 (.tup [.str "has", .str "cell"])
    have hA2 := hA1.mono m2
    have d2 := dp_mono m2 _ _ d1
    rcases pick_two (a := V.str "has") (b := V.str "cell") (r := r) with e2 | e2
    · refine ⟨_, rfl, _, _, rfl, rfl, (by show (0 : Int) < 2; decide), p2, _, _, _, rfl, rfl, SqT.of upd_same, e2, ?_⟩
      refine ⟨_, rfl, _, rfl, _, _, rfl, rfl, ⟨by decide, by decide⟩, _, rfl, ta, _, rfl, .inl hA2.t, _, _, rfl, rfl, len_pos t0, ta, _, _, _, rfl, rfl, hA2.t, ey, _, rfl, three, fun p4 hp4 => ?_⟩
      exact q _ (.has y e) _ (m1.trans (m2.trans (same_new hp4 _))) (dp_has hp4 y d2) ⟨hy, o1⟩
    · refine ⟨_, rfl, _, _, rfl, rfl, (by show (0 : Int) < 2; decide), p2, _, _, _, rfl, rfl, SqT.of upd_same, e2, ?_⟩
      refine ⟨_, rfl, _, rfl, _, _, rfl, rfl, ⟨by decide, by decide⟩, _, rfl, ta, _, rfl, .inl hA2.t, _, _, rfl, rfl, len_pos t0, ta, _, _, _, rfl, rfl, hA2.t, ey, _, rfl, three, fun p4 hp4 => ?_⟩
      exact q _ (.cell y e) _ (m1.trans (m2.trans (same_new hp4 _))) (dp_cell hp4 y d2) ⟨hy, o1⟩
  -- the sign
  refine ⟨seven, fun p2 hp2 => ?_⟩
  have m2 := same_new hp2 (.tup [.str "+", .str "-", .str "*", .str "/", .str "mod", .str "<", .str "="])
  have hA2 := hA.mono m2
  obtain ⟨o, ho, eo⟩ := pick_op (r := r)
  refine ⟨_, rfl, _, _, rfl, rfl, (by show (0 : Int) < 7; decide), p2, _, _, _, rfl, rfl, SqT.of upd_same, eo, ?_⟩
  revert m2 hA2
  generalize upd H p2 (.tup [.str "+", .str "-", .str "*", .str "/", .str "mod", .str "<", .str "="]) = H2
  intro m2 hA2
  -- two sides
  refine ⟨_, rfl, rfl, _, rfl, ite2 (fun _ => ?_) (fun _ => ?_)⟩
  · refine ⟨_, rfl, _, rfl, _, _, rfl, rfl, ⟨by decide, by decide⟩, _, rfl, _, rfl, _, rfl, _, na, va, ta, sc, rfl, hA2, fun v e H3 m3 d3 o3 => ?_⟩
    refine ⟨_, rfl, _, _, rfl, rfl, ⟨by decide, by decide⟩, _, rfl, _, rfl, _, rfl, _, na, va, ta, sc, rfl, hA2.mono m3, fun v' e' H4 m4 d4 o4 => ?_⟩
    refine ⟨three, fun p5 hp5 => ?_⟩
    exact q _ (.op o e e') _ (m2.trans (m3.trans (m4.trans (same_new hp5 _)))) (dp_op hp5 o (dp_mono m4 _ _ d3) d4) ⟨ho, o3, o4⟩
  -- a number on the left
  refine ⟨_, rfl, rfl, _, rfl, ite2 (fun _ => ?_) (fun _ => ?_)⟩
  · refine ⟨_, rfl, _, _, rfl, rfl, ⟨by decide, by decide⟩, _, _, rfl, rfl, (by show (0 : Int) < 3; decide), two, fun p3 hp3 => ?_⟩
    have m3 := same_new hp3 (.tup [.str "number", .int (r / 7 % 3)])
    have d3 := dp_num (K := K) hp3 (r / 7 % 3)
    have hA3 := hA2.mono m3
    revert m3 d3 hA3
    dsimp only
    generalize upd H2 p3 (.tup [.str "number", .int (r / 7 % 3)]) = H3
    intro m3 d3 hA3
    refine ⟨_, rfl, _, rfl, _, rfl, _, _, rfl, rfl, ⟨by decide, by decide⟩, _, _, rfl, rfl, (by show (0 : Int) < 4; decide), two, fun p4 hp4 => ?_⟩
    have m4 := same_new hp4 (.tup [.str "number", .int (r / 21 % 4)])
    have d4 := dp_num (K := K) hp4 (r / 21 % 4)
    have hA4 := hA3.mono m4
    have d34 := dp_mono m4 _ _ d3
    revert m4 d4 hA4 d34
    dsimp only
    generalize upd H3 p4 (.tup [.str "number", .int (r / 21 % 4)]) = H4
    intro m4 d4 hA4 d34
    refine ⟨_, rfl, _, _, rfl, rfl, ⟨by decide, by decide⟩, _, rfl, _, rfl, _, rfl, _, na, va, ta, sc, rfl, hA4, fun v' e' H5 m5 d5 o5 => ?_⟩
    refine ⟨two, fun p6 hp6 => ?_⟩
    have m6 := same_new hp6 (.tup [.ref p4, v'])
    have m56 := m5.trans m6
    have mm := m2.trans (m3.trans (m4.trans m56))
    rcases pick_two (a := V.ref p4) (b := v') (r := r / 5) with e2 | e2
    · refine ⟨_, rfl, _, _, rfl, rfl, ⟨by decide, by decide⟩, _, _, rfl, rfl, (by show (0 : Int) < 2; decide), p6, _, _, _, rfl, rfl, SqT.of upd_same, e2, three, fun p7 hp7 => ?_⟩
      exact q _ (.op o (.num (r / 7 % 3)) (.num (r / 21 % 4))) _ (mm.trans (same_new hp7 _)) (dp_op hp7 o (dp_mono m56 _ _ d34) (dp_mono m56 _ _ d4)) ⟨ho, num_ok _ _ 1 (by decide) (by decide), num_ok _ _ 1 (by decide) (by decide)⟩
    · refine ⟨_, rfl, _, _, rfl, rfl, ⟨by decide, by decide⟩, _, _, rfl, rfl, (by show (0 : Int) < 2; decide), p6, _, _, _, rfl, rfl, SqT.of upd_same, e2, three, fun p7 hp7 => ?_⟩
      exact q _ (.op o (.num (r / 7 % 3)) e') _ (mm.trans (same_new hp7 _)) (dp_op hp7 o (dp_mono m56 _ _ d34) (dp_mono m6 _ _ d5)) ⟨ho, num_ok _ _ 1 (by decide) (by decide), o5⟩
  -- a number
  refine ⟨_, rfl, _, _, rfl, rfl, (by show (0 : Int) < 4; decide), _, rfl, _, _, rfl, rfl, (by show (0 : Int) < 4; decide), _, rfl, _, _, rfl, rfl, (by show (0 : Int) < 4; decide), _, rfl, _, _, rfl, rfl, (by show (0 : Int) < 3; decide), _, _, rfl, rfl, four, fun p3 hp3 => ?_⟩
  have m3 := same_new hp3 (.tup [.int (r % 4), .int (r % 4), .int (r % 4), .int (65535 - r % 3)])
  obtain ⟨z, hz, ez⟩ := pick_disp (vs := [.int (r % 4), .int (r % 4), .int (r % 4), .int (65535 - r % 3)]) (r := r / 4) (n := 4) rfl (by decide)
  have z4 : ∃ n : Int, z = .int n ∧ 0 ≤ n ∧ n ≤ 65535 := by
    have a0 := Int.emod_nonneg r (by decide : (4 : Int) ≠ 0)
    have a1 := Int.emod_lt_of_pos r (by decide : (0 : Int) < 4)
    have b0 := Int.emod_nonneg r (by decide : (3 : Int) ≠ 0)
    have b1 := Int.emod_lt_of_pos r (by decide : (0 : Int) < 3)
    simp only [List.mem_cons, List.not_mem_nil, or_false] at hz
    rcases hz with rfl | rfl | rfl | rfl
    · exact ⟨_, rfl, a0, by omega⟩
    · exact ⟨_, rfl, a0, by omega⟩
    · exact ⟨_, rfl, a0, by omega⟩
    · exact ⟨_, rfl, by omega, by omega⟩
  obtain ⟨n, rfl, n0, n1⟩ := z4
  refine ⟨_, rfl, _, _, rfl, rfl, ⟨by decide, by decide⟩, _, _, rfl, rfl, (by show (0 : Int) < 4; decide), p3, _, _, _, rfl, rfl, SqT.of upd_same, ez, two, fun p4 hp4 => ?_⟩
  exact q _ (.num n) _ (m2.trans (m3.trans (same_new hp4 _))) (dp_num hp4 n) ⟨n0, n1⟩
section
variable {H : Hp} {p : Addr}
theorem dp_set (hp : H p = none) (x : Str) {v : V} {e : Ex} (d : Dp K H v e.d) : Dp K (upd H p (.tup [.str "set", .str x, v])) (.ref p) (Stm.set x e).d := by
  unfold Stm.d; exact dp_tup hp (.cons (.str _) (.cons (.str _) (.cons d .nil)))
theorem dp_let (hp : H p = none) (x : Str) {v : V} {e : Ex} (d : Dp K H v e.d) : Dp K (upd H p (.tup [.str "let", .str x, v])) (.ref p) (Stm.lt x e).d := by
  unfold Stm.d; exact dp_tup hp (.cons (.str _) (.cons (.str _) (.cons d .nil)))
theorem dp_draw (hp : H p = none) (x : Str) (n : Int) : Dp K (upd H p (.tup [.str "draw", .str x, .int n])) (.ref p) (Stm.draw x n).d := by
  unfold Stm.d; exact dp_tup hp (.cons (.str _) (.cons (.str _) (.cons (.int _) .nil)))
theorem dp_put (hp : H p = none) (t : Str) {v u : V} {e f : Ex} (d : Dp K H v e.d) (d' : Dp K H u f.d) : Dp K (upd H p (.tup [.str "put", .str t, v, u])) (.ref p) (Stm.put t e f).d := by
  unfold Stm.d; exact dp_tup hp (.cons (.str _) (.cons (.str _) (.cons d (.cons d' .nil))))
theorem dp_lot (hp : H p = none) (l o : Str) {v : V} {e : Ex} (d : Dp K H v e.d) : Dp K (upd H p (.tup [.str "lot", .str l, .str o, v])) (.ref p) (Stm.lot l o e).d := by
  unfold Stm.d; exact dp_tup hp (.cons (.str _) (.cons (.str _) (.cons (.str _) (.cons d .nil))))
theorem dp_if (hp : H p = none) {v a b : V} {e : Ex} {x y : Blk} (d : Dp K H v e.d) (da : Dp K H a x.d) (db : Dp K H b y.d) : Dp K (upd H p (.tup [.str "if", v, a, b])) (.ref p) (Stm.ite e x y).d := by
  unfold Stm.d; exact dp_tup hp (.cons (.str _) (.cons d (.cons da (.cons db .nil))))
theorem dp_bad (hp : H p = none) : Dp K (upd H p (.tup [.str "bad"])) (.ref p) Stm.bad.d := by
  unfold Stm.d; exact dp_tup hp (.cons (.str _) .nil)
theorem dp_after (hp : H p = none) {a : V} {x : Blk} (da : Dp K H a x.d) : Dp K (upd H p (.tup [.str "after", a])) (.ref p) (Stm.after x).d := by
  unfold Stm.d; exact dp_tup hp (.cons (.str _) (.cons da .nil))
theorem dp_b0 (hp : H p = none) : Dp K (upd H p (.tup [])) (.ref p) Blk.nil.d := by
  show Dp K _ _ (.tuple Blk.nil.ds); rw [Blk.ds]; exact dp_tup hp .nil
theorem dp_b1 (hp : H p = none) {v : V} {x : Stm} (d : Dp K H v x.d) : Dp K (upd H p (.tup [v])) (.ref p) (Blk.cons x .nil).d := by
  show Dp K _ _ (.tuple (Blk.cons x .nil).ds); rw [Blk.ds, Blk.ds]; exact dp_tup hp (.cons d .nil)
theorem dp_b2 (hp : H p = none) {v u : V} {x y : Stm} (d : Dp K H v x.d) (d' : Dp K H u y.d) : Dp K (upd H p (.tup [v, u])) (.ref p) (Blk.cons x (.cons y .nil)).d := by
  show Dp K _ _ (.tuple (Blk.cons x (.cons y .nil)).ds); rw [Blk.ds, Blk.ds, Blk.ds]; exact dp_tup hp (.cons d (.cons d' .nil))
end
theorem draw5 {r : Int} : ∃ n : Int, atI ([.int 2, .int 3, .int 4, .int 2, .int 1] : List V) (r % 5) = some (.int n) ∧ 1 ≤ n ∧ n ≤ 4 := by
  obtain ⟨z, hz, ez⟩ := pick_disp (vs := [.int 2, .int 3, .int 4, .int 2, .int 1]) (r := r) (n := 5) rfl (by decide)
  simp only [List.mem_cons, List.not_mem_nil, or_false] at hz
  rcases hz with rfl | rfl | rfl | rfl | rfl
  · exact ⟨_, ez, by decide, by decide⟩
  · exact ⟨_, ez, by decide, by decide⟩
  · exact ⟨_, ez, by decide, by decide⟩
  · exact ⟨_, ez, by decide, by decide⟩
  · exact ⟨_, ez, by decide, by decide⟩
theorem ok_plain (T : Txt K mg file) : FnOk P w K mg base CX0 3 T.a_law_plain T.fd_law_plain ["cell", "names", "variables", "tables", "lots"] (spPlain K) := by
  have G_law_side : FnOk P w K mg base CX0 1 T.a_law_side T.fd_law_side ["code", "names", "variables", "tables"] (spSide K 2) := ok_side T
  have G_law_value : FnOk P w K mg base CX0 2 T.a_law_value T.fd_law_value ["cell", "names", "variables", "tables"] (spSide K 3) := ok_value T
  refine T.F_law_plain.ok sc_law_plain (fun vs H Q E h => ?_) (fun cdv A outer s H vs Q E hr h => ?_)
  · obtain ⟨c, na, va, ta, la, s, rfl, _⟩ := h
    rfl
  obtain ⟨code, na, va, ta, la, sc, rfl, hA, hL, q⟩ := h
  refine ⟨_, (pss_cons (ps_set (i := 5) sc_law_plain.nd rfl (Or.inl rfl) (pe_op op_mod (pe_callTy call_int1 (by rfl) T.z_int (by decide +kernel) (pa_cons (pv 0) pa_nil)) pe_int))
    (pss_cons (ps_set (i := 6) sc_law_plain.nd rfl (Or.inl rfl) (pe_op op_fdivW (pe_callTy call_int1 (by rfl) T.z_int (by decide +kernel) (pa_cons (pv 0) pa_nil)) pe_int))
    (pss_cons (ps_set (i := 7) sc_law_plain.nd rfl (Or.inl rfl) (pe_call G_law_value (hr.mono (by decide)) rfl T.g_law_value T.k_law_value T.b_law_value .nil pass0 (pa_cons (pe_op op_fdivW (pv 6) pe_int) (pa_cons (pv 1) (pa_cons (pv 2) (pa_cons (pv 3) pa_nil))))))
    (pss_cons (ps_if (pt_cmpR op_lt (pv 5) pe_int (nomark _))
      (pss_one (ps_ret (pe_tup (pa_cons pe_str (pa_cons (pe_ix ix_tup (pv 1) (pe_op op_mod (pv 6) (pe_callB call_len_seq (by rfl) T.z_len (by decide +kernel) (pa_cons (pv 1) pa_nil))) (fun _ _ => rfl)) (pa_cons (pe_ix ix_tup (pe_tup (pa_cons pe_int (pa_cons pe_int (pa_cons pe_int (pa_cons pe_int (pa_cons pe_int pa_nil)))))) (pe_op op_mod (pe_op op_fdivW (pv 6) pe_int) pe_int) (fun _ _ => rfl)) pa_nil))))))
      pss_nil)
    (pss_cons (ps_if (PW.pt (pw_and (pt_cmpR op_eq (pv 5) pe_int (nomark _)) (pw_and1 (pt_cmpR op_gt (pe_callB call_len_seq (by rfl) T.z_len (by decide +kernel) (pa_cons (pv 2) pa_nil)) pe_int (nomark _)))))
      (pss_one (ps_ret (pe_tup (pa_cons pe_str (pa_cons (pe_ix ix_list (pv 2) (pe_op op_mod (pv 6) (pe_callB call_len_seq (by rfl) T.z_len (by decide +kernel) (pa_cons (pv 2) pa_nil))) (fun _ _ => rfl)) (pa_cons (pv 7) pa_nil))))))
      pss_nil)
    (pss_cons (ps_if (PW.pt (pw_and (pt_cmpR op_eq (pv 5) pe_int (nomark _)) (pw_and1 (pt_cmpR op_gt (pe_callB call_len_seq (by rfl) T.z_len (by decide +kernel) (pa_cons (pv 3) pa_nil)) pe_int (nomark _)))))
      (pss_cons (ps_set (i := 8) sc_law_plain.nd rfl (Or.inl rfl) (pe_call G_law_side (hr.mono (by decide)) rfl T.g_law_side T.k_law_side T.b_law_side .nil pass0 (pa_cons (pe_op op_fdivW (pv 6) pe_int) (pa_cons (pv 1) (pa_cons (pv 2) (pa_cons (pv 3) pa_nil))))))
    (pss_one (ps_ret (pe_tup (pa_cons pe_str (pa_cons (pe_ix ix_list (pv 3) (pe_op op_mod (pe_op op_fdivW (pv 6) pe_int) (pe_callB call_len_seq (by rfl) T.z_len (by decide +kernel) (pa_cons (pv 3) pa_nil))) (fun _ _ => rfl)) (pa_cons (pe_ix ix_tup (pe_tup (pa_cons (pe_tup (pa_cons pe_str (pa_cons (pe_ix ix_tup (pv 1) (pe_op op_mod (pv 6) (pe_callB call_len_seq (by rfl) T.z_len (by decide +kernel) (pa_cons (pv 1) pa_nil))) (fun _ _ => rfl)) pa_nil))) (pa_cons (pv 8) pa_nil))) (pe_op op_mod (pe_op op_fdivW (pv 6) pe_int) pe_int) (fun _ _ => rfl)) (pa_cons (pv 7) pa_nil))))))))
      pss_nil)
    (pss_cons (ps_if (PW.pt (pw_and (pt_cmpR op_eq (pv 5) pe_int (nomark _)) (pw_and1 (pt_cmpR op_gt (pe_callB call_len_seq (by rfl) T.z_len (by decide +kernel) (pa_cons (pv 4) pa_nil)) pe_int (nomark _)))))
      (pss_cons (ps_set (i := 8) sc_law_plain.nd rfl (Or.inl rfl) (pe_call G_law_side (hr.mono (by decide)) rfl T.g_law_side T.k_law_side T.b_law_side .nil pass0 (pa_cons (pe_op op_fdivW (pv 6) pe_int) (pa_cons (pv 1) (pa_cons (pv 2) (pa_cons (pv 3) pa_nil))))))
    (pss_cons (ps_set (i := 9) sc_law_plain.nd rfl (Or.inl rfl) (pe_ix ix_tup (pe_tup (pa_cons (pe_tup (pa_cons pe_str (pa_cons (pe_ix ix_tup (pv 1) (pe_op op_mod (pe_op op_fdivW (pv 6) pe_int) (pe_callB call_len_seq (by rfl) T.z_len (by decide +kernel) (pa_cons (pv 1) pa_nil))) (fun _ _ => rfl)) pa_nil))) (pa_cons (pv 8) pa_nil))) (pe_op op_mod (pe_op op_fdivW (pv 6) pe_int) pe_int) (fun _ _ => rfl)))
    (pss_one (ps_ret (pe_tup (pa_cons pe_str (pa_cons (pe_ix ix_tup (pv 1) (pe_op op_mod (pv 6) (pe_callB call_len_seq (by rfl) T.z_len (by decide +kernel) (pa_cons (pv 1) pa_nil))) (fun _ _ => rfl)) (pa_cons (pe_ix ix_list (pv 4) (pe_op op_mod (pe_op op_fdivW (pv 6) pe_int) (pe_callB call_len_seq (by rfl) T.z_len (by decide +kernel) (pa_cons (pv 4) pa_nil))) (fun _ _ => rfl)) (pa_cons (pv 9) pa_nil)))))))))
      pss_nil)
    (pss_one (ps_ret (pe_tup (pa_cons pe_str (pa_cons (pe_ix ix_tup (pv 1) (pe_op op_mod (pv 6) (pe_callB call_len_seq (by rfl) T.z_len (by decide +kernel) (pa_cons (pv 1) pa_nil))) (fun _ _ => rfl)) (pa_cons (pv 7) pa_nil))))))))))))), ?_⟩
  have two : (2 : Nat) ≤ sizeLine := by decide
  have three : (3 : Nat) ≤ sizeLine := by decide
  have four : (4 : Nat) ≤ sizeLine := by decide
  have five : (5 : Nat) ≤ sizeLine := by decide
  refine ⟨_, rfl, .inl ⟨_, rfl, _, _, rfl, rfl, (by show (0 : Int) < 7; decide), ?_⟩⟩
  refine ⟨_, rfl, .inl ⟨_, rfl, _, _, rfl, rfl, ⟨by decide, by decide⟩, ?_⟩⟩
  dsimp only
  generalize code / 7 = r
  generalize code % 7 = pk
  refine ⟨_, rfl, _, _, rfl, rfl, ⟨by decide, by decide⟩, _, rfl, _, rfl, _, rfl, _, na, va, ta, sc, rfl, hA, fun v e H1 m1 d1 o1 => ?_⟩
  have hA1 := hA.mono m1
  have hL1 := m1.seq hL
  obtain ⟨x, hx, ex⟩ := pick_mem (r := r) hA.n0
  -- draw
  refine ⟨_, rfl, _, _, rfl, rfl, _, rfl, ite2 (fun c => ?_) (fun c1 => ?_)⟩
  · obtain ⟨n, en, n1, n4⟩ := draw5 (r := r / 3)
    refine ⟨_, rfl, _, rfl, _, rfl, na, _, rfl, .inr hA1.n, _, _, rfl, rfl, len_pos hA.n0, na, _, _, _, rfl, rfl, hA1.n, ex, five, fun p hp => ?_⟩
    refine ⟨_, rfl, _, _, rfl, rfl, ⟨by decide, by decide⟩, _, _, rfl, rfl, (by show (0 : Int) < 5; decide), p, _, _, _, rfl, rfl, SqT.of upd_same, en, three, fun p2 hp2 => ?_⟩
    refine q _ (.draw x n) _ (m1.trans ((same_new hp _).trans (same_new hp2 _))) (dp_draw hp2 x n) ?_
    unfold Stm.Ok
    exact ⟨hx, n1, by omega⟩
  -- set
  refine ⟨_, rfl, rfl, _, rfl, and_if ?_ fun _ rest => ?_⟩
  rotate_left
  · refine ⟨_, rfl, va, _, rfl, .inl hA1.v, _, _, rfl, rfl, _, rfl, ite2 (fun c => ?_) (fun _ => rest)⟩
    have v0 := ne_of_len c
    obtain ⟨y, hy, ey⟩ := pick_mem (r := r) v0
    refine ⟨_, rfl, _, rfl, _, rfl, va, _, rfl, .inl hA1.v, _, _, rfl, rfl, len_pos v0, va, _, _, _, rfl, rfl, hA1.v, ey, _, rfl, three, fun p2 hp2 => ?_⟩
    refine q _ (.set y e) _ (m1.trans (same_new hp2 _)) (dp_set hp2 y d1) ?_
    unfold Stm.Ok
    exact ⟨hy, o1⟩
  -- put
  refine ⟨_, rfl, rfl, _, rfl, and_if ?_ fun _ rest => ?_⟩
  rotate_left
  · refine ⟨_, rfl, ta, _, rfl, .inl hA1.t, _, _, rfl, rfl, _, rfl, ite2 (fun c => ?_) (fun _ => rest)⟩
    have t0 := ne_of_len c
    obtain ⟨y, hy, ey⟩ := pick_mem (r := r / 5) t0
    refine ⟨_, rfl, _, _, rfl, rfl, ⟨by decide, by decide⟩, _, rfl, _, rfl, _, rfl, _, na, va, ta, sc, rfl, hA1, fun v2 e2 H2 m2 d2 o2 => ?_⟩
    have hA2 := hA1.mono m2
    refine ⟨_, rfl, _, rfl, _, _, rfl, rfl, ⟨by decide, by decide⟩, _, rfl, ta, _, rfl, .inl hA2.t, _, _, rfl, rfl, len_pos t0, ta, _, _, _, rfl, rfl, hA2.t, ey, ?_⟩
    refine ⟨_, rfl, _, rfl, _, rfl, na, _, rfl, .inr hA2.n, _, _, rfl, rfl, len_pos hA.n0, na, _, _, _, rfl, rfl, hA2.n, ex, two, fun p3 hp3 => ?_⟩
    have m3 := same_new hp3 (.tup [.str "local", .str x])
    have d3 := dp_loc (K := K) hp3 x
    refine ⟨_, rfl, two, fun p4 hp4 => ?_⟩
    have m4 := same_new hp4 (.tup [.ref p3, v2])
    have mm := m2.trans (m3.trans m4)
    rcases pick_two (a := V.ref p3) (b := v2) (r := r / 7) with e7 | e7
    · refine ⟨_, rfl, _, _, rfl, rfl, ⟨by decide, by decide⟩, _, _, rfl, rfl, (by show (0 : Int) < 2; decide), p4, _, _, _, rfl, rfl, SqT.of upd_same, e7, _, rfl, four, fun p5 hp5 => ?_⟩
      refine q _ (.put y (.loc x) e) _ (m1.trans (mm.trans (same_new hp5 _))) (dp_put hp5 y (dp_mono m4 _ _ d3) (dp_mono mm _ _ d1)) ?_
      unfold Stm.Ok
      exact ⟨hy, hx, o1⟩
    · refine ⟨_, rfl, _, _, rfl, rfl, ⟨by decide, by decide⟩, _, _, rfl, rfl, (by show (0 : Int) < 2; decide), p4, _, _, _, rfl, rfl, SqT.of upd_same, e7, _, rfl, four, fun p5 hp5 => ?_⟩
      refine q _ (.put y e2 e) _ (m1.trans (mm.trans (same_new hp5 _))) (dp_put hp5 y (dp_mono (m3.trans m4) _ _ d2) (dp_mono mm _ _ d1)) ?_
      unfold Stm.Ok
      exact ⟨hy, o2.mono (by decide), o1⟩
  -- lot
  refine ⟨_, rfl, rfl, _, rfl, and_if ?_ fun _ rest => ?_⟩
  rotate_left
  · refine ⟨_, rfl, la, _, rfl, .inl hL1, _, _, rfl, rfl, _, rfl, ite2 (fun c => ?_) (fun _ => rest)⟩
    have l0 := ne_of_len c
    obtain ⟨y, hy, ey⟩ := pick_mem (r := r / 9) l0
    obtain ⟨x3, hx3, ex3⟩ := pick_mem (r := r / 3) hA.n0
    refine ⟨_, rfl, _, _, rfl, rfl, ⟨by decide, by decide⟩, _, rfl, _, rfl, _, rfl, _, na, va, ta, sc, rfl, hA1, fun v2 e2 H2 m2 d2 o2 => ?_⟩
    have hA2 := hA1.mono m2
    refine ⟨_, rfl, _, rfl, _, _, rfl, rfl, ⟨by decide, by decide⟩, _, rfl, na, _, rfl, .inr hA2.n, _, _, rfl, rfl, len_pos hA.n0, na, _, _, _, rfl, rfl, hA2.n, ex3, two, fun p3 hp3 => ?_⟩
    have m3 := same_new hp3 (.tup [.str "local", .str x3])
    have d3 := dp_loc (K := K) hp3 x3
    refine ⟨_, rfl, two, fun p4 hp4 => ?_⟩
    have m4 := same_new hp4 (.tup [.ref p3, v2])
    have m34 := m3.trans m4
    have mm := m2.trans m34
    have hA4 := hA2.mono m34
    have hL4 := mm.seq hL1
    have fin : ∀ (z : V) (f : Ex), Dp K (upd (upd H2 p3 (.tup [.str "local", .str x3])) p4 (.tup [.ref p3, v2])) z f.d → f.Ok sc 3 →
        tRet (tTup (tCons (tC (.str "lot")) (tCons (tOp (rIxT K) (tVar 1) (tOp (rI (fun _ j => 0 < j) fun i j => .int (i % j)) (tVar 6) (tCB (fun xs H Q => ∃ p ys, xs = [.ref p] ∧ (SqL K H p ys ∨ SqT K H p ys) ∧ Q (.int ys.length) H) (tCons (tVar 1) tNil))))
          (tCons (tOp (rIxL K) (tVar 4) (tOp (rI (fun _ j => 0 < j) fun i j => .int (i % j)) (tOp (rI CDivW fun i j => .int (i / j)) (tVar 6) (tC (.int 9))) (tCB (fun xs H Q => ∃ p ys, xs = [.ref p] ∧ (SqL K H p ys ∨ SqT K H p ys) ∧ Q (.int ys.length) H) (tCons (tVar 4) tNil))))
          (tCons (tVar 9) tNil))))) { nx := fun _ H' => Q .non H', rt := Q } [some (.int code), some (.ref na), some (.ref va), some (.ref ta), some (.ref la), some (.int pk), some (.int r), some v, some v2, some z]
          (upd (upd H2 p3 (.tup [.str "local", .str x3])) p4 (.tup [.ref p3, v2])) := by
      intro z f df of_
      refine ⟨_, rfl, _, rfl, _, rfl, na, _, rfl, .inr hA4.n, _, _, rfl, rfl, len_pos hA.n0, na, _, _, _, rfl, rfl, hA4.n, ex, ?_⟩
      refine ⟨_, rfl, _, rfl, _, _, rfl, rfl, ⟨by decide, by decide⟩, _, rfl, la, _, rfl, .inl hL4, _, _, rfl, rfl, len_pos l0, la, _, _, _, rfl, rfl, hL4, ey, _, rfl, four, fun p5 hp5 => ?_⟩
      refine q _ (.lot x y f) _ (m1.trans (mm.trans (same_new hp5 _))) (dp_lot hp5 x y df) ?_
      unfold Stm.Ok
      exact ⟨hx, hy, of_⟩
    rcases pick_two (a := V.ref p3) (b := v2) (r := r / 7) with e7 | e7
    · refine ⟨_, rfl, _, _, rfl, rfl, ⟨by decide, by decide⟩, _, _, rfl, rfl, (by show (0 : Int) < 2; decide), p4, _, _, _, rfl, rfl, SqT.of upd_same, e7, ?_⟩
      exact fin _ (.loc x3) (dp_mono m4 _ _ d3) hx3
    · refine ⟨_, rfl, _, _, rfl, rfl, ⟨by decide, by decide⟩, _, _, rfl, rfl, (by show (0 : Int) < 2; decide), p4, _, _, _, rfl, rfl, SqT.of upd_same, e7, ?_⟩
      exact fin _ e2 (dp_mono m34 _ _ d2) (o2.mono (by decide))
  -- let
  refine ⟨_, rfl, _, rfl, _, rfl, na, _, rfl, .inr hA1.n, _, _, rfl, rfl, len_pos hA.n0, na, _, _, _, rfl, rfl, hA1.n, ex, _, rfl, three, fun p2 hp2 => ?_⟩
  refine q _ (.lt x e) _ (m1.trans (same_new hp2 _)) (dp_let hp2 x d1) ?_
  unfold Stm.Ok
  exact ⟨hx, o1⟩
/-! ### a block -/
theorem ok_block (T : Txt K mg file) : FnOk P w K mg base CX0 4 T.a_law_block T.fd_law_block ["cells", "names", "variables", "tables", "lots"] (spBlock K) := by
  have G_law_plain : FnOk P w K mg base CX0 3 T.a_law_plain T.fd_law_plain ["cell", "names", "variables", "tables", "lots"] (spPlain K) := ok_plain T
  have G_law_value : FnOk P w K mg base CX0 2 T.a_law_value T.fd_law_value ["cell", "names", "variables", "tables"] (spSide K 3) := ok_value T
  refine T.F_law_block.ok sc_law_block (fun vs H Q E h => ?_) (fun cdv A outer s H vs Q E hr h => ?_)
  · obtain ⟨ca, na, va, ta, la, ns, s, rfl, _⟩ := h
    rfl
  obtain ⟨ca, na, va, ta, la, ns, sc, rfl, hC, hlen, hA, hL, q⟩ := h
  refine ⟨_, (pss_cons (ps_set (i := 5) sc_law_block.nd rfl (Or.inl rfl) (pe_lst pa_nil))
    (pss_cons (ps_for PassesOwn.never rfl (pi_list (pv 0)) (pg_name (i := 6) sc_law_block.nd rfl (Or.inl rfl))
      (pss_cons (ps_set (i := 7) sc_law_block.nd rfl (Or.inl rfl) (pe_op op_mod (pe_callTy call_int1 (by rfl) T.z_int (by decide +kernel) (pa_cons (pv 6) pa_nil)) pe_int))
    (pss_cons (ps_set (i := 8) sc_law_block.nd rfl (Or.inl rfl) (pe_op op_fdivW (pe_callTy call_int1 (by rfl) T.z_int (by decide +kernel) (pa_cons (pv 6) pa_nil)) pe_int))
    (pss_cons (ps_set (i := 9) sc_law_block.nd rfl (Or.inl rfl) (pe_call G_law_plain (hr.mono (by decide)) rfl T.g_law_plain T.k_law_plain T.b_law_plain .nil pass0 (pa_cons (pe_op op_fdivW (pv 8) pe_int) (pa_cons (pv 1) (pa_cons (pv 2) (pa_cons (pv 3) (pa_cons (pv 4) pa_nil)))))))
    (pss_cons (ps_set (i := 10) sc_law_block.nd rfl (Or.inl rfl) (pe_call G_law_plain (hr.mono (by decide)) rfl T.g_law_plain T.k_law_plain T.b_law_plain .nil pass0 (pa_cons (pe_op op_fdivW (pv 8) pe_int) (pa_cons (pv 1) (pa_cons (pv 2) (pa_cons (pv 3) (pa_cons (pv 4) pa_nil)))))))
    (pss_one (ps_if (pt_cmpR op_eq (pv 7) pe_int (nomark _))
      (pss_cons (ps_set (i := 11) sc_law_block.nd rfl (Or.inl rfl) (pe_tup pa_nil))
    (pss_cons (ps_if (pt_cmpR op_eq (pe_op op_mod (pv 8) pe_int) pe_int (nomark _))
      (pss_one (ps_set (i := 11) sc_law_block.nd rfl (Or.inl rfl) (pe_tup (pa_cons (pe_call G_law_plain (hr.mono (by decide)) rfl T.g_law_plain T.k_law_plain T.b_law_plain .nil pass0 (pa_cons (pe_op op_fdivW (pv 8) pe_int) (pa_cons (pv 1) (pa_cons (pv 2) (pa_cons (pv 3) (pa_cons (pv 4) pa_nil)))))) pa_nil))))
      pss_nil)
    (pss_cons (ps_set (i := 12) sc_law_block.nd rfl (Or.inl rfl) (pe_tup (pa_cons (pv 9) pa_nil)))
    (pss_cons (ps_if (pt_cmpR op_eq (pe_op op_mod (pe_op op_fdivW (pv 8) pe_int) pe_int) pe_int (nomark _))
      (pss_one (ps_set (i := 12) sc_law_block.nd rfl (Or.inl rfl) (pe_tup (pa_cons (pe_tup (pa_cons pe_str (pa_cons (pe_call G_law_value (hr.mono (by decide)) rfl T.g_law_value T.k_law_value T.b_law_value .nil pass0 (pa_cons (pe_op op_fdivW (pv 8) pe_int) (pa_cons (pv 1) (pa_cons (pv 2) (pa_cons (pv 3) pa_nil))))) (pa_cons (pe_tup (pa_cons (pv 9) pa_nil)) (pa_cons (pv 11) pa_nil))))) pa_nil))))
      pss_nil)
    (pss_cons (ps_if (pt_cmpR op_eq (pe_op op_mod (pe_op op_fdivW (pv 8) pe_int) pe_int) pe_int (nomark _))
      (pss_one (ps_set (i := 12) sc_law_block.nd rfl (Or.inl rfl) (pe_tup (pa_cons (pe_tup (pa_cons pe_str (pa_cons (pe_tup (pa_cons (pv 9) pa_nil)) pa_nil))) (pa_cons (pe_tup (pa_cons pe_str (pa_cons (pe_tup (pa_cons pe_str (pa_cons (pe_ix ix_tup (pv 1) pe_int (fun _ _ => rfl)) pa_nil))) (pa_cons (pe_tup (pa_cons (pe_tup (pa_cons pe_str pa_nil)) pa_nil)) (pa_cons (pe_tup pa_nil) pa_nil))))) pa_nil)))))
      pss_nil)
    (pss_cons (ps_if (pt_cmpR op_eq (pe_op op_mod (pe_op op_fdivW (pv 8) pe_int) pe_int) pe_int (nomark _))
      (pss_one (ps_set (i := 11) sc_law_block.nd rfl (Or.inl rfl) (pe_tup (pa_cons (pe_tup (pa_cons pe_str (pa_cons (pe_call G_law_value (hr.mono (by decide)) rfl T.g_law_value T.k_law_value T.b_law_value .nil pass0 (pa_cons (pe_op op_fdivW (pv 8) pe_int) (pa_cons (pv 1) (pa_cons (pv 2) (pa_cons (pv 3) pa_nil))))) (pa_cons (pe_tup pa_nil) (pa_cons (pe_tup (pa_cons (pv 9) pa_nil)) pa_nil))))) pa_nil))))
      pss_nil)
    (pss_cons (ps_if (pt_cmpR op_eq (pe_op op_mod (pe_op op_fdivW (pv 8) pe_int) pe_int) pe_int (nomark _))
      (pss_one (ps_set (i := 11) sc_law_block.nd rfl (Or.inl rfl) (pe_tup (pa_cons (pv 10) (pa_cons (pe_tup (pa_cons pe_str pa_nil)) pa_nil)))))
      pss_nil)
    (pss_one (ps_expr (pe_bm PySem.F.plainAttrs_list PySem.F.slot_list_append PySem.F.type_list_append mt_append (pv 5) (pa_cons (pe_tup (pa_cons pe_str (pa_cons (pe_call G_law_value (hr.mono (by decide)) rfl T.g_law_value T.k_law_value T.b_law_value .nil pass0 (pa_cons (pe_op op_fdivW (pv 8) pe_int) (pa_cons (pv 1) (pa_cons (pv 2) (pa_cons (pv 3) pa_nil))))) (pa_cons (pv 12) (pa_cons (pv 11) pa_nil))))) pa_nil)))))))))))
      (pss_one (ps_if (PW.pt (pw_and (pt_cmpR op_eq (pv 7) pe_int (nomark _)) (pw_and1 (pt_cmpR op_eq (pe_op op_mod (pv 8) pe_int) pe_int (nomark _)))))
      (pss_one (ps_expr (pe_bm PySem.F.plainAttrs_list PySem.F.slot_list_append PySem.F.type_list_append mt_append (pv 5) (pa_cons (pe_tup (pa_cons pe_str pa_nil)) pa_nil))))
      (pss_one (ps_if (PW.pt (pw_and (pt_cmpR op_eq (pv 7) pe_int (nomark _)) (pw_and1 (pt_cmpR op_eq (pe_op op_mod (pv 8) pe_int) pe_int (nomark _)))))
      (pss_cons (ps_set (i := 13) sc_law_block.nd rfl (Or.inl rfl) (pe_call G_law_value (hr.mono (by decide)) rfl T.g_law_value T.k_law_value T.b_law_value .nil pass0 (pa_cons (pe_op op_fdivW (pv 8) pe_int) (pa_cons (pv 1) (pa_cons (pv 2) (pa_cons (pv 3) pa_nil))))))
    (pss_one (ps_expr (pe_bm PySem.F.plainAttrs_list PySem.F.slot_list_append PySem.F.type_list_append mt_append (pv 5) (pa_cons (pe_tup (pa_cons pe_str (pa_cons (pe_ix ix_tup (pe_tup (pa_cons (pe_tup (pa_cons (pv 9) pa_nil)) (pa_cons (pe_tup pa_nil) (pa_cons (pe_tup (pa_cons (pv 9) (pa_cons (pv 10) pa_nil))) (pa_cons (pe_tup (pa_cons (pe_tup (pa_cons pe_str (pa_cons (pv 13) (pa_cons (pe_tup (pa_cons (pv 9) pa_nil)) (pa_cons (pe_tup (pa_cons (pv 10) pa_nil)) pa_nil))))) pa_nil)) pa_nil))))) (pe_op op_mod (pe_op op_fdivW (pv 8) pe_int) pe_int) (fun _ _ => rfl)) pa_nil))) pa_nil)))))
      (pss_one (ps_expr (pe_bm PySem.F.plainAttrs_list PySem.F.slot_list_append PySem.F.type_list_append mt_append (pv 5) (pa_cons (pv 9) pa_nil)))))))))))))))
    (pss_one (ps_ret (pe_callTy call_tuple_of (by rfl) T.z_tuple (by decide +kernel) (pa_cons (pv 5) pa_nil)))))), ?_⟩
  have zero : (0 : Nat) ≤ sizeLine := by decide
  have one : (1 : Nat) ≤ sizeLine := by decide
  have two : (2 : Nat) ≤ sizeLine := by decide
  have four : (4 : Nat) ≤ sizeLine := by decide
  refine ⟨zero, fun l hl => ?_⟩
  have nl : ∀ b o, H b = some o → b ≠ l := fun b o e => ne_of_none e hl
  refine ⟨_, rfl, ca, rfl, ⟨_, (same_new hl (.lst [])).seq hC⟩, for_list (K := K) (a := ca) (xs := ns.map V.int) (fun i σ H' => ∃ (vs : List V) (b : Blk) (v1 v2 v3 v4 v5 v6 v7 v8 : Option V),
      σ = [some (.ref ca), some (.ref na), some (.ref va), some (.ref ta), some (.ref la), some (.ref l), v1, v2, v3, v4, v5, v6, v7, v8] ∧ Same H H' ∧ H' l = some (.lst vs) ∧ DpAll K H' vs b.ds ∧ b.Ok sc 3 2 ∧ b.len = i)
    ⟨[], .nil, none, none, none, none, none, none, none, none, rfl, same_new hl _, upd_same, by rw [Blk.ds]; exact .nil, Blk.ok_nil, rfl⟩ (fun i σ H' _ ⟨_, _, _, _, _, _, _, _, _, _, _, m, _⟩ => m.seq hC) ?_ ?_⟩
  · rintro i y σ H1 hi ⟨vs, b, v1, v2, v3, v4, v5, v6, v7, v8, rfl, m1, hl1, hb1, ob1, nb1⟩
    obtain ⟨z, hz, rfl⟩ : ∃ z, ns[i]? = some z ∧ y = V.int z := by
      rw [List.getElem?_map] at hi
      cases e : ns[i]? with
      | none => rw [e] at hi; cases hi
      | some z => rw [e] at hi; exact ⟨z, rfl, (Option.some.inj hi).symm⟩
    have hil : i < ns.length := (List.getElem?_eq_some_iff.mp hz).1
    have lv : vs.length = i := by rw [DpAll.len hb1, Blk.len_ds, nb1]
    have lbig : vs.length < sizeLine := small1000 (by omega)
    have hA1 := hA.mono m1
    have hL1 := m1.seq hL
    -- what is appended, at the turn's end
    have fin : ∀ (v : V) (x : Stm) (H2 : Hp) (w1 w2 w3 w4 w5 w6 w7 w8 : Option V), Same H1 H2 → Dp K H2 v x.d → x.Ok sc 3 2 →
        ∃ (vs' : List V) (b' : Blk) (v1 v2 v3 v4 v5 v6 v7 v8 : Option V),
          ([some (.ref ca), some (.ref na), some (.ref va), some (.ref ta), some (.ref la), some (.ref l), w1, w2, w3, w4, w5, w6, w7, w8] : List (Option V)) =
            [some (.ref ca), some (.ref na), some (.ref va), some (.ref ta), some (.ref la), some (.ref l), v1, v2, v3, v4, v5, v6, v7, v8] ∧
          Same H (upd H2 l (.lst (vs ++ [v]))) ∧ (upd H2 l (.lst (vs ++ [v]))) l = some (.lst vs') ∧ DpAll K (upd H2 l (.lst (vs ++ [v]))) vs' b'.ds ∧ b'.Ok sc 3 2 ∧ b'.len = i + 1 := by
      intro v x H2 w1 w2 w3 w4 w5 w6 w7 w8 m2 dv ox
      have hl2 := m2 _ _ hl1
      have tp : Tups H2 (upd H2 l (.lst (vs ++ [v]))) := Tups.lst hl2
      refine ⟨vs ++ [v], b.app (.cons x .nil), _, _, _, _, _, _, _, _, rfl, fun c o e => by rw [upd_ne (nl c o e)]; exact m2 _ _ (m1 _ _ e), upd_same, ?_, Blk.ok_app ob1 (Blk.ok_cons ox Blk.ok_nil), by rw [Blk.len_app, nb1]; rfl⟩
      rw [Blk.ds_app]
      refine DpAll.app (dp_tupsAll tp _ _ (Blk.nol b) (dp_monoAll m2 _ _ hb1)) ?_
      rw [Blk.ds, Blk.ds]
      exact .cons (dp_tups tp _ _ (Stm.nol x) dv) .nil
    have app : ∀ (v : V) (H2 : Hp), Same H1 H2 → ∃ l' ys y, V.ref l = V.ref l' ∧ [v] = [y] ∧ H2 l' = some (.lst ys) ∧ ys.length < sizeLine ∧ ys = vs := fun v H2 m2 => ⟨l, vs, v, rfl, rfl, m2 _ _ hl1, lbig, rfl⟩
    -- way, rest, inner, more
    refine ⟨_, rfl, .inl ⟨_, rfl, _, _, rfl, rfl, (by show (0 : Int) < 9; decide), ?_⟩⟩
    refine ⟨_, rfl, .inl ⟨_, rfl, _, _, rfl, rfl, ⟨by decide, by decide⟩, ?_⟩⟩
    dsimp only
    generalize z / 9 = r
    generalize z % 9 = way
    refine ⟨_, rfl, _, _, rfl, rfl, ⟨by decide, by decide⟩, _, rfl, _, rfl, _, rfl, _, rfl, _, na, va, ta, la, sc, rfl, hA1, hL1, fun vi xi H2 m2 di oi => ?_⟩
    refine ⟨_, rfl, _, _, rfl, rfl, ⟨by decide, by decide⟩, _, rfl, _, rfl, _, rfl, _, rfl, _, na, va, ta, la, sc, rfl, hA1.mono m2, m2.seq hL1, fun vm xm H3 m3' dm om => ?_⟩
    have m3 := m2.trans m3'
    have di3 := dp_mono m3' _ _ di
    clear m2 m3' di
    refine ⟨_, rfl, rfl, _, rfl, ite2 (fun _ => ?_) (fun _ => ?_)⟩
    · -- an if; other = ()
      refine ⟨zero, fun p0 hp0 => ?_⟩
      have m4 := m3.trans (same_new hp0 (.tup []))
      have d4 := dp_b0 (K := K) hp0
      have di4 := dp_mono (same_new hp0 (.tup [])) _ _ di3
      have dm4 := dp_mono (same_new hp0 (.tup [])) _ _ dm
      revert m4 d4 di4 dm4
      generalize upd H3 p0 (.tup []) = H4
      intro m4 d4 di4 dm4
      refine ⟨_, rfl, _, _, rfl, rfl, (by show (0 : Int) < 2; decide), rfl, _, rfl, ?_⟩
      refine if_rest (fun σ H' => ∃ (vo : V) (bo : Blk) (v7 v8 : Option V), σ = [some (.ref ca), some (.ref na), some (.ref va), some (.ref ta), some (.ref la), some (.ref l), some (.int z), some (.int way), some (.int r), some vi, some vm, some vo, v7, v8] ∧
        Same H1 H' ∧ Dp K H' vo bo.d ∧ bo.OkI sc 3 0 ∧ Dp K H' vi xi.d ∧ Dp K H' vm xm.d) ?_ (fun _ rest => ?_) (fun _ => ⟨_, _, _, _, rfl, m4, d4, Blk.oki Blk.ok_nil, di4, dm4⟩)
      rotate_left
      · refine ⟨_, rfl, _, _, rfl, rfl, ⟨by decide, by decide⟩, _, rfl, _, rfl, _, rfl, _, rfl, _, na, va, ta, la, sc, rfl, hA1.mono m4, m4.seq hL1, fun vp xp H5 m5 dp op => ⟨one, fun p6 hp6 => ?_⟩⟩
        have m6 := same_new hp6 (.tup [vp])
        exact rest _ _ ⟨_, _, _, _, rfl, m4.trans (m5.trans m6), dp_b1 hp6 dp, Blk.oki (Blk.ok_cons op Blk.ok_nil), dp_mono (m5.trans m6) _ _ di4, dp_mono (m5.trans m6) _ _ dm4⟩
      -- then = (inner,)
      rintro σ H5 ⟨vo, bo, v7, v8, rfl, m5, do5, oo5, di5, dm5⟩
      refine ⟨_, rfl, one, fun p6 hp6 => ?_⟩
      have n6 := same_new hp6 (.tup [vi])
      have dt6 := dp_b1 (K := K) hp6 di5
      have m6 := m5.trans n6
      have do6 := dp_mono n6 _ _ do5
      have di6 := dp_mono n6 _ _ di5
      have dm6 := dp_mono n6 _ _ dm5
      revert m6 dt6 do6 di6 dm6
      generalize upd H5 p6 (.tup [vi]) = H6
      intro dt6 m6 do6 di6 dm6
      -- the state behind each of the four ifs
      let J : L2.St → Hp → Prop := fun σ H' => ∃ (vo vt : V) (bo bt : Blk) (v8 : Option V), σ = [some (.ref ca), some (.ref na), some (.ref va), some (.ref ta), some (.ref la), some (.ref l), some (.int z), some (.int way), some (.int r), some vi, some vm, some vo, some vt, v8] ∧
        Same H1 H' ∧ Dp K H' vo bo.d ∧ bo.OkI sc 3 1 ∧ Dp K H' vt bt.d ∧ bt.OkI sc 3 1 ∧ Dp K H' vi xi.d ∧ Dp K H' vm xm.d
      have oo1 : bo.OkI sc 3 1 := ⟨Blk.ok_mono oo5.1 (by decide), oo5.2⟩
      have oi1 : (Blk.cons xi .nil).OkI sc 3 1 := Blk.oki (Blk.ok_cons (Stm.ok_mono oi (by decide)) Blk.ok_nil)
      have st0 : J [some (.ref ca), some (.ref na), some (.ref va), some (.ref ta), some (.ref la), some (.ref l), some (.int z), some (.int way), some (.int r), some vi, some vm, some vo, some (.ref p6), v8] H6 := ⟨_, _, _, _, _, rfl, m6, do6, oo1, dt6, oi1, di6, dm6⟩
      -- 1: an if within
      refine ⟨_, rfl, _, _, rfl, rfl, ⟨by decide, by decide⟩, _, _, rfl, rfl, (by show (0 : Int) < 6; decide), rfl, _, rfl, ?_⟩
      refine if_rest J ?_ (fun _ rest => ?_) (fun _ => st0)
      rotate_left
      · refine ⟨_, rfl, _, _, rfl, rfl, ⟨by decide, by decide⟩, _, rfl, _, rfl, _, rfl, _, na, va, ta, sc, rfl, hA1.mono m6, fun ve e H7 m7 de oe => ?_⟩
        refine ⟨_, rfl, one, fun p8 hp8 => ?_⟩
        have n8 := same_new hp8 (.tup [vi])
        have m78 := m7.trans n8
        refine ⟨_, rfl, four, fun p9 hp9 => ?_⟩
        have n9 := same_new hp9 (.tup [.str "if", ve, .ref p8, vo])
        have d9 := dp_if (K := K) hp9 (dp_mono n8 _ _ de) (dp_b1 hp8 (dp_mono m7 _ _ di6)) (dp_mono m78 _ _ do6)
        refine ⟨one, fun p10 hp10 => ?_⟩
        have n10 := same_new hp10 (.tup [.ref p9])
        have mm := m78.trans (n9.trans n10)
        exact rest _ _ ⟨_, _, _, _, _, rfl, m6.trans mm, dp_mono mm _ _ do6, oo1, dp_b1 hp10 d9, Blk.oki (Blk.ok_cons (Stm.ok_ite oe (Blk.oki (Blk.ok_cons oi Blk.ok_nil)) oo5) Blk.ok_nil), dp_mono mm _ _ di6, dp_mono mm _ _ dm6⟩
      clear st0 do6 dt6 di6 dm6 m6 oo5 oo1 do5 di5 dm5 m5
      rintro σ H7 ⟨vo, vt, bo, bt, v8, rfl, m7, do7, oo7, dt7, ot7, di7, dm7⟩
      -- 2: an after, and bad in an if
      refine ⟨_, rfl, _, _, rfl, rfl, ⟨by decide, by decide⟩, _, _, rfl, rfl, (by show (0 : Int) < 6; decide), rfl, _, rfl, ?_⟩
      refine if_rest J ?_ (fun _ rest => ?_) (fun _ => ⟨_, _, _, _, _, rfl, m7, do7, oo7, dt7, ot7, di7, dm7⟩)
      rotate_left
      · refine ⟨_, rfl, one, fun p8 hp8 => ?_⟩
        have n8 := same_new hp8 (.tup [vi])
        have e8 := dp_b1 (K := K) hp8 di7
        refine ⟨two, fun p9 hp9 => ?_⟩
        have n9 := same_new hp9 (.tup [.str "after", .ref p8])
        have e9 := dp_after (K := K) hp9 e8
        have hA9 := hA1.mono (m7.trans (n8.trans n9))
        obtain ⟨x0, hx0⟩ : ∃ x0, sc.locs[0]? = some x0 := ⟨_, List.getElem?_eq_getElem (List.length_pos_iff.mpr hA.n0)⟩
        refine ⟨_, rfl, na, _, _, _, rfl, rfl, hA9.n, at_of (j := 0) rfl (by rw [List.getElem?_map, hx0]; rfl), two, fun p10 hp10 => ?_⟩
        have n10 := same_new hp10 (.tup [.str "local", .str x0])
        have e10 := dp_loc (K := K) hp10 x0
        refine ⟨one, fun p11 hp11 => ?_⟩
        have n11 := same_new hp11 (.tup [.str "bad"])
        have e11 := dp_bad (K := K) hp11
        refine ⟨one, fun p12 hp12 => ?_⟩
        have n12 := same_new hp12 (.tup [.ref p11])
        have e12 := dp_b1 (K := K) hp12 e11
        refine ⟨zero, fun p13 hp13 => ?_⟩
        have n13 := same_new hp13 (.tup [])
        have e13 := dp_b0 (K := K) hp13
        refine ⟨four, fun p14 hp14 => ?_⟩
        have n14 := same_new hp14 (.tup [.str "if", .ref p10, .ref p12, .ref p13])
        have e14 := dp_if (K := K) hp14 (dp_mono (n11.trans (n12.trans n13)) _ _ e10) (dp_mono n13 _ _ e12) e13
        refine ⟨two, fun p15 hp15 => ?_⟩
        have n15 := same_new hp15 (.tup [.ref p9, .ref p14])
        have e15 := dp_b2 (K := K) hp15 (dp_mono (n10.trans (n11.trans (n12.trans (n13.trans n14)))) _ _ e9) e14
        have mm := n8.trans (n9.trans (n10.trans (n11.trans (n12.trans (n13.trans (n14.trans n15))))))
        refine rest _ _ ⟨_, _, _, _, _, rfl, m7.trans mm, dp_mono mm _ _ do7, oo7, e15, ?_, dp_mono mm _ _ di7, dp_mono mm _ _ dm7⟩
        exact Blk.oki (Blk.ok_cons (Stm.ok_after (Blk.oki (Blk.ok_cons oi Blk.ok_nil))) (Blk.ok_cons (Stm.ok_ite (show x0 ∈ sc.locs from List.mem_of_getElem? hx0) (Blk.oki (Blk.ok_cons Stm.ok_bad Blk.ok_nil)) (Blk.oki Blk.ok_nil)) Blk.ok_nil))
      clear do7 dt7 di7 dm7 m7 oo7 ot7
      rintro σ H7 ⟨vo, vt, bo, bt, v8, rfl, m7, do7, oo7, dt7, ot7, di7, dm7⟩
      -- 3: an if in the else
      refine ⟨_, rfl, _, _, rfl, rfl, ⟨by decide, by decide⟩, _, _, rfl, rfl, (by show (0 : Int) < 6; decide), rfl, _, rfl, ?_⟩
      refine if_rest J ?_ (fun _ rest => ?_) (fun _ => ⟨_, _, _, _, _, rfl, m7, do7, oo7, dt7, ot7, di7, dm7⟩)
      rotate_left
      · refine ⟨_, rfl, _, _, rfl, rfl, ⟨by decide, by decide⟩, _, rfl, _, rfl, _, rfl, _, na, va, ta, sc, rfl, hA1.mono m7, fun ve e H8 m8 de oe => ?_⟩
        refine ⟨zero, fun p9 hp9 => ?_⟩
        have n9 := same_new hp9 (.tup [])
        have e9 := dp_b0 (K := K) hp9
        refine ⟨_, rfl, one, fun p10 hp10 => ?_⟩
        have n10 := same_new hp10 (.tup [vi])
        have e10 := dp_b1 (K := K) hp10 (dp_mono (m8.trans n9) _ _ di7)
        refine ⟨four, fun p11 hp11 => ?_⟩
        have n11 := same_new hp11 (.tup [.str "if", ve, .ref p9, .ref p10])
        have e11 := dp_if (K := K) hp11 (dp_mono (n9.trans n10) _ _ de) (dp_mono n10 _ _ e9) e10
        refine ⟨one, fun p12 hp12 => ?_⟩
        have n12 := same_new hp12 (.tup [.ref p11])
        have e12 := dp_b1 (K := K) hp12 e11
        have mm := m8.trans (n9.trans (n10.trans (n11.trans n12)))
        exact rest _ _ ⟨_, _, _, _, _, rfl, m7.trans mm, e12, Blk.oki (Blk.ok_cons (Stm.ok_ite oe (Blk.oki Blk.ok_nil) (Blk.oki (Blk.ok_cons oi Blk.ok_nil))) Blk.ok_nil), dp_mono mm _ _ dt7, ot7, dp_mono mm _ _ di7, dp_mono mm _ _ dm7⟩
      clear do7 dt7 di7 dm7 m7 oo7 ot7
      rintro σ H7 ⟨vo, vt, bo, bt, v8, rfl, m7, do7, oo7, dt7, ot7, di7, dm7⟩
      -- 4: bad in the else
      refine ⟨_, rfl, _, _, rfl, rfl, ⟨by decide, by decide⟩, _, _, rfl, rfl, (by show (0 : Int) < 6; decide), rfl, _, rfl, ?_⟩
      refine if_rest J ?_ (fun _ rest => ?_) (fun _ => ⟨_, _, _, _, _, rfl, m7, do7, oo7, dt7, ot7, di7, dm7⟩)
      rotate_left
      · refine ⟨_, rfl, one, fun p9 hp9 => ?_⟩
        have n9 := same_new hp9 (.tup [.str "bad"])
        have e9 := dp_bad (K := K) hp9
        refine ⟨two, fun p10 hp10 => ?_⟩
        have n10 := same_new hp10 (.tup [vm, .ref p9])
        have e10 := dp_b2 (K := K) hp10 (dp_mono n9 _ _ dm7) e9
        have mm := n9.trans n10
        exact rest _ _ ⟨_, _, _, _, _, rfl, m7.trans mm, e10, Blk.oki (Blk.ok_cons (Stm.ok_mono om (by decide)) (Blk.ok_cons Stm.ok_bad Blk.ok_nil)), dp_mono mm _ _ dt7, ot7, dp_mono mm _ _ di7, dp_mono mm _ _ dm7⟩
      clear do7 dt7 di7 dm7 m7 oo7 ot7
      rintro σ H7 ⟨vo, vt, bo, bt, v8, rfl, m7, do7, oo7, dt7, ot7, di7, dm7⟩
      refine ⟨_, rfl, .inl ⟨rfl, _, SqL.of (m7 _ _ hl1)⟩, _, rfl, _, _, rfl, rfl, ⟨by decide, by decide⟩, _, rfl, _, rfl, _, rfl, _, na, va, ta, sc, rfl, hA1.mono m7, fun ve e H8 m8 de oe => ?_⟩
      refine ⟨_, rfl, _, rfl, four, fun p9 hp9 => ?_⟩
      have n9 := same_new hp9 (.tup [.str "if", ve, vt, vo])
      have e9 := dp_if (K := K) hp9 de (dp_mono m8 _ _ dt7) (dp_mono m8 _ _ do7)
      have mm := m7.trans (m8.trans n9)
      refine ⟨l, vs, _, rfl, rfl, mm _ _ hl1, lbig, ?_⟩
      exact fin _ _ _ _ _ _ _ _ _ _ _ mm e9 (Stm.ok_ite oe ot7 oo7)
    · -- bad
      refine ⟨_, rfl, rfl, _, rfl, and_if ?_ fun _ rest => ?_⟩
      rotate_left
      · refine ⟨_, rfl, _, _, rfl, rfl, (by show (0 : Int) < 3; decide), rfl, _, rfl, ite2 (fun c => ?_) (fun _ => rest)⟩
        refine ⟨_, rfl, .inl ⟨rfl, _, SqL.of (m3 _ _ hl1)⟩, one, fun p4 hp4 => ?_⟩
        have mm := m3.trans (same_new hp4 (.tup [.str "bad"]))
        refine ⟨l, vs, _, rfl, rfl, mm _ _ hl1, lbig, ?_⟩
        exact fin _ _ _ _ _ _ _ _ _ _ _ mm (dp_bad hp4) Stm.ok_bad
      -- an after
      refine ⟨_, rfl, rfl, _, rfl, and_if ?_ fun _ rest => ?_⟩
      rotate_left
      · refine ⟨_, rfl, _, _, rfl, rfl, (by show (0 : Int) < 3; decide), rfl, _, rfl, ite2 (fun c => ?_) (fun _ => rest)⟩
        refine ⟨_, rfl, _, _, rfl, rfl, ⟨by decide, by decide⟩, _, rfl, _, rfl, _, rfl, _, na, va, ta, sc, rfl, hA1.mono m3, fun ve e H8 m8 de oe => ?_⟩
        have m38 := m3.trans m8
        have di8 := dp_mono m8 _ _ di3
        have dm8 := dp_mono m8 _ _ dm
        refine ⟨_, rfl, .inl ⟨rfl, _, SqL.of (m38 _ _ hl1)⟩, _, rfl, one, fun p9 hp9 => ?_⟩
        have n9 := same_new hp9 (.tup [vi])
        have e9 := dp_b1 (K := K) hp9 di8
        refine ⟨zero, fun p10 hp10 => ?_⟩
        have n10 := same_new hp10 (.tup [])
        have e10 := dp_b0 (K := K) hp10
        refine ⟨_, rfl, _, rfl, two, fun p11 hp11 => ?_⟩
        have n11 := same_new hp11 (.tup [vi, vm])
        have n910 := n9.trans n10
        have e11 := dp_b2 (K := K) hp11 (dp_mono n910 _ _ di8) (dp_mono n910 _ _ dm8)
        have n911 := n910.trans n11
        refine ⟨_, rfl, _, rfl, one, fun p12 hp12 => ?_⟩
        have n12 := same_new hp12 (.tup [vi])
        have e12 := dp_b1 (K := K) hp12 (dp_mono n911 _ _ di8)
        refine ⟨_, rfl, one, fun p13 hp13 => ?_⟩
        have n13 := same_new hp13 (.tup [vm])
        have e13 := dp_b1 (K := K) hp13 (dp_mono (n911.trans n12) _ _ dm8)
        refine ⟨four, fun p14 hp14 => ?_⟩
        have n14 := same_new hp14 (.tup [.str "if", ve, .ref p12, .ref p13])
        have e14 := dp_if (K := K) hp14 (dp_mono (n911.trans (n12.trans n13)) _ _ de) (dp_mono n13 _ _ e12) e13
        refine ⟨one, fun p15 hp15 => ?_⟩
        have n15 := same_new hp15 (.tup [.ref p14])
        have e15 := dp_b1 (K := K) hp15 e14
        refine ⟨four, fun p16 hp16 => ?_⟩
        have n16 := same_new hp16 (.tup [.ref p9, .ref p10, .ref p11, .ref p15])
        obtain ⟨v, hv, ev⟩ := pick_disp (vs := [.ref p9, .ref p10, .ref p11, .ref p15]) (r := r / 3) (n := 4) rfl (by decide)
        refine ⟨_, rfl, _, _, rfl, rfl, ⟨by decide, by decide⟩, _, _, rfl, rfl, (by show (0 : Int) < 4; decide), p16, _, _, _, rfl, rfl, SqT.of upd_same, ev, two, fun p17 hp17 => ?_⟩
        have n17 := same_new hp17 (.tup [.str "after", v])
        have n1216 := n12.trans (n13.trans (n14.trans (n15.trans n16)))
        have mm := m38.trans (n911.trans (n1216.trans n17))
        simp only [List.mem_cons, List.not_mem_nil, or_false] at hv
        refine ⟨l, vs, _, rfl, rfl, mm _ _ hl1, lbig, ?_⟩
        rcases hv with rfl | rfl | rfl | rfl
        · exact fin _ _ _ _ _ _ _ _ _ _ _ mm (dp_after hp17 (dp_mono (n10.trans (n11.trans n1216)) _ _ e9)) (Stm.ok_after (Blk.oki (Blk.ok_cons (Stm.ok_mono oi (by decide)) Blk.ok_nil)))
        · exact fin _ _ _ _ _ _ _ _ _ _ _ mm (dp_after hp17 (dp_mono (n11.trans n1216) _ _ e10)) (Stm.ok_after (Blk.oki Blk.ok_nil))
        · exact fin _ _ _ _ _ _ _ _ _ _ _ mm (dp_after hp17 (dp_mono n1216 _ _ e11)) (Stm.ok_after (Blk.oki (Blk.ok_cons (Stm.ok_mono oi (by decide)) (Blk.ok_cons (Stm.ok_mono om (by decide)) Blk.ok_nil))))
        · exact fin _ _ _ _ _ _ _ _ _ _ _ mm (dp_after hp17 (dp_mono n16 _ _ e15)) (Stm.ok_after (Blk.oki (Blk.ok_cons (Stm.ok_ite oe (Blk.oki (Blk.ok_cons oi Blk.ok_nil)) (Blk.oki (Blk.ok_cons om Blk.ok_nil))) Blk.ok_nil)))
      -- a plain one
      refine ⟨_, rfl, .inl ⟨rfl, _, SqL.of (m3 _ _ hl1)⟩, _, rfl, l, vs, _, rfl, rfl, m3 _ _ hl1, lbig, ?_⟩
      exact fin _ _ _ _ _ _ _ _ _ _ _ m3 di3 (Stm.ok_mono oi (by decide))
  · rintro σ H1 ⟨vs, b, v1, v2, v3, v4, v5, v6, v7, v8, rfl, m1, hl1, hb1, ob1, nb1⟩
    refine ⟨_, rfl, l, vs, rfl, .inl ⟨SqL.of hl1, fun p hp => ?_⟩⟩
    exact q _ b _ (m1.trans (same_new hp _)) (dp_tup hp hb1) ob1 (by rw [nb1, List.length_map])
/-! ### a game -/
def spGame (K : PySem.W.Frag) : Sp := fun vs H Q _ => ∃ (a : Addr) (ns : List Int) (k : Int), vs = [.ref a, .int k] ∧ SqL K H a (ns.map V.int) ∧ 0 ≤ k ∧
  ∀ (v : V) (g : Ga) (H' : Hp), Same H H' → Dp K H' v g.d → GaOk g → Q v H'
theorem tab5 {r : Int} : ∃ n : Int, atI ([.int 0, .int 1, .int 0, .int 1, .int 2] : List V) (r % 5) = some (.int n) ∧ 0 ≤ n ∧ n ≤ 2 := by
  obtain ⟨z, hz, ez⟩ := pick_disp (vs := [.int 0, .int 1, .int 0, .int 1, .int 2]) (r := r) (n := 5) rfl (by decide)
  simp only [List.mem_cons, List.not_mem_nil, or_false] at hz
  rcases hz with rfl | rfl | rfl | rfl | rfl
  · exact ⟨_, ez, by decide, by decide⟩
  · exact ⟨_, ez, by decide, by decide⟩
  · exact ⟨_, ez, by decide, by decide⟩
  · exact ⟨_, ez, by decide, by decide⟩
  · exact ⟨_, ez, by decide, by decide⟩
theorem siz3 {r : Int} : ∃ n : Int, atI ([.int 2, .int 3, .int 65535] : List V) (r % 3) = some (.int n) ∧ (n = 2 ∨ n = 3 ∨ n = 65535) := by
  obtain ⟨z, hz, ez⟩ := pick_disp (vs := [.int 2, .int 3, .int 65535]) (r := r) (n := 3) rfl (by decide)
  simp only [List.mem_cons, List.not_mem_nil, or_false] at hz
  rcases hz with rfl | rfl | rfl
  · exact ⟨_, ez, .inl rfl⟩
  · exact ⟨_, ez, .inr (.inl rfl)⟩
  · exact ⟨_, ez, .inr (.inr rfl)⟩
theorem mod2 (r : Int) : r % 2 = 0 ∨ r % 2 = 1 := by omega
theorem ok_game (T : Txt K mg file) : FnOk P w K mg base CX0 5 T.a_law_game T.fd_law_game ["script", "at"] (spGame K) := by
  have G_law_cell : FnOk P w K mg base CX0 1 T.a_law_cell T.fd_law_cell ["script", "k"] (spCell K) := ok_cell T
  have G_law_row : FnOk P w K mg base CX0 1 T.a_law_row T.fd_law_row ["cell", "count", "size"] spRow := ok_row T
  have G_law_value : FnOk P w K mg base CX0 2 T.a_law_value T.fd_law_value ["cell", "names", "variables", "tables"] (spSide K 3) := ok_value T
  have G_law_block : FnOk P w K mg base CX0 4 T.a_law_block T.fd_law_block ["cells", "names", "variables", "tables", "lots"] (spBlock K) := ok_block T
  refine T.F_law_game.ok sc_law_game (fun vs H Q E h => ?_) (fun cdv A outer s H vs Q E hr h => ?_)
  · obtain ⟨a, ns, k, rfl, _⟩ := h
    rfl
  obtain ⟨sa, ns, at_, rfl, hS, hat, q⟩ := h
  refine ⟨_, (pss_cons (ps_set (i := 2) sc_law_game.nd rfl (Or.inr rfl) (pe_call G_law_row (hr.mono (by decide)) rfl T.g_law_row T.k_law_row T.b_law_row .nil pass0 (pa_cons (pe_call G_law_cell (hr.mono (by decide)) rfl T.g_law_cell T.k_law_cell T.b_law_cell .nil pass0 (pa_cons (pv 0) (pa_cons (pv 1) pa_nil))) (pa_cons pe_int (pa_cons pe_int pa_nil)))))
    (pss_cons (ps_set (i := 3) sc_law_game.nd rfl (Or.inr rfl) (pe_slice sl_list (pe_lst (pa_cons pe_str (pa_cons pe_str pa_nil))) po_none (po_some (pe_op op_mod (pe_ix ix_list (pv 2) pe_int (fun _ _ => rfl)) pe_int))))
    (pss_cons (ps_set (i := 4) sc_law_game.nd rfl (Or.inr rfl) (pe_slice sl_list (pe_lst (pa_cons pe_str (pa_cons pe_str pa_nil))) po_none (po_some (pe_ix ix_tup (pe_tup (pa_cons pe_int (pa_cons pe_int (pa_cons pe_int (pa_cons pe_int (pa_cons pe_int pa_nil)))))) (pe_op op_mod (pe_ix ix_list (pv 2) pe_int (fun _ _ => rfl)) pe_int) (fun _ _ => rfl)))))
    (pss_cons (ps_set (i := 5) sc_law_game.nd rfl (Or.inl rfl) (pe_slice sl_list (pe_lst (pa_cons pe_str (pa_cons pe_str pa_nil))) po_none (po_some (pe_op op_mod (pe_ix ix_list (pv 2) pe_int (fun _ _ => rfl)) pe_int))))
    (pss_cons (ps_set (i := 6) sc_law_game.nd rfl (Or.inl rfl) (pe_lst pa_nil))
    (pss_cons (ps_for PassesOwn.never rfl (pi_range1 (by rfl) T.z_range (pa_cons (pe_op op_add pe_int (pe_op op_mod (pe_ix ix_list (pv 2) pe_int (fun _ _ => rfl)) pe_int)) pa_nil)) (pg_name (i := 7) sc_law_game.nd rfl (Or.inl rfl))
      (pss_cons (ps_set (i := 8) sc_law_game.nd rfl (Or.inl rfl) (pe_slice (slTB K rfl) (pe_tup (pa_cons pe_str (pa_cons pe_str (pa_cons pe_str pa_nil)))) po_none (po_some (pe_op op_add pe_int (pe_op op_mod (pe_ix ix_list (pv 2) (pe_op op_add pe_int (pv 7)) (fun _ _ => rfl)) pe_int)))))
    (pss_cons (ps_set (i := 9) sc_law_game.nd rfl (Or.inl rfl) (pe_call G_law_row (hr.mono (by decide)) rfl T.g_law_row T.k_law_row T.b_law_row .nil pass0 (pa_cons (pe_call G_law_cell (hr.mono (by decide)) rfl T.g_law_cell T.k_law_cell T.b_law_cell .nil pass0 (pa_cons (pv 0) (pa_cons (pe_op op_add (pe_op op_add (pv 1) pe_int) (pv 7)) pa_nil))) (pa_cons (pe_op op_add pe_int (pe_op op_mod (pe_ix ix_list (pv 2) (pe_op op_add pe_int (pv 7)) (fun _ _ => rfl)) pe_int)) (pa_cons (pe_op op_pow pe_int pe_int) pa_nil)))))
    (pss_cons (ps_set (i := 10) sc_law_game.nd rfl (Or.inl rfl) (pe_call G_law_block (hr.mono (by decide)) rfl T.g_law_block T.k_law_block T.b_law_block .nil pass0 (pa_cons (pv 9) (pa_cons (pv 8) (pa_cons (pv 3) (pa_cons (pv 4) (pa_cons (pv 5) pa_nil)))))))
    (pss_cons (ps_set (i := 11) sc_law_game.nd rfl (Or.inl rfl) (pe_call G_law_value (hr.mono (by decide)) rfl T.g_law_value T.k_law_value T.b_law_value .nil pass0 (pa_cons (pe_op op_add (pe_op op_mul (pe_ix ix_list (pv 2) (pe_op op_add pe_int (pv 7)) (fun _ _ => rfl)) pe_int) (pe_ix ix_list (pv 2) pe_int (fun _ _ => rfl))) (pa_cons (pv 8) (pa_cons (pv 3) (pa_cons (pv 4) pa_nil))))))
    (pss_one (ps_expr (pe_bm PySem.F.plainAttrs_list PySem.F.slot_list_append PySem.F.type_list_append mt_append (pv 6) (pa_cons (pe_tup (pa_cons (pe_ix ix_str pe_str (pv 7) (fun _ _ => rfl)) (pa_cons (pe_op op_add pe_int (pe_op op_mod (pe_ix ix_list (pv 2) (pe_op op_add pe_int (pv 7)) (fun _ _ => rfl)) pe_int)) (pa_cons (pe_op op_add pe_int (pe_op op_mod (pe_ix ix_list (pv 2) (pe_op op_add pe_int (pv 7)) (fun _ _ => rfl)) pe_int)) (pa_cons (pv 8) (pa_cons (pv 10) (pa_cons (pv 11) pa_nil))))))) pa_nil)))))))))
    (pss_cons (ps_set (i := 12) sc_law_game.nd rfl (Or.inl rfl) (pe_callTy call_tuple_of (by rfl) T.z_tuple (by decide +kernel) (pa_cons (pe_lc (own := [("k", 7)]) (g := gName 7) (tt := tYes) rfl sc_law_game.nd (pi_range1 (by rfl) T.z_range (pa_cons (pe_callB call_len_seq (by rfl) T.z_len (by decide +kernel) (pa_cons (pv 3) pa_nil)) pa_nil)) (blkOk_by (own := [("k", 7)]) (N := ["script", "at", "digits", "variables", "tables", "lots", "procs", "k", "names", "cells", "block", "result", "rows", "first", "name"]) (sc := defScope s_law_game) (by decide +kernel)) (fun _ _ _ _ _ => pg_name (i := 7) sc_law_game.nd rfl (Or.inl rfl)) (fun _ _ _ _ _ => pts_nil) (fun _ _ _ _ _ => (pe_tup (pa_cons (pe_ix (ixlK K rfl) (pv 3) (pv 7) (fun _ _ => rfl)) (pa_cons (pe_ix (ixtK K rfl) (pe_tup (pa_cons pe_int (pa_cons pe_int (pa_cons pe_int pa_nil)))) (pe_op op_mod (pe_ix (ixlK K rfl) (pv 2) pe_int (fun _ _ => rfl)) pe_int) (fun _ _ => rfl)) (pa_cons (pe_op op_mod (pe_ix (ixlK K rfl) (pv 2) (pe_op op_add pe_int (pv 7)) (fun _ _ => rfl)) pe_int) pa_nil)))))) pa_nil)))
    (pss_cons (ps_set (i := 13) sc_law_game.nd rfl (Or.inl rfl) (pe_callTy call_tuple_of (by rfl) T.z_tuple (by decide +kernel) (pa_cons (pe_lc (own := [("k", 7)]) (g := gName 7) (tt := tYes) rfl sc_law_game.nd (pi_range1 (by rfl) T.z_range (pa_cons (pe_callB call_len_seq (by rfl) T.z_len (by decide +kernel) (pa_cons (pv 4) pa_nil)) pa_nil)) (blkOk_by (own := [("k", 7)]) (N := ["script", "at", "digits", "variables", "tables", "lots", "procs", "k", "names", "cells", "block", "result", "rows", "first", "name"]) (sc := defScope s_law_game) (by decide +kernel)) (fun _ _ _ _ _ => pg_name (i := 7) sc_law_game.nd rfl (Or.inl rfl)) (fun _ _ _ _ _ => pts_nil) (fun _ _ _ _ _ => (pe_tup (pa_cons (pe_ix (ixlK K rfl) (pv 4) (pv 7) (fun _ _ => rfl)) (pa_cons (pe_op op_add pe_int (pe_op op_mod (pe_op op_add (pe_ix (ixlK K rfl) (pv 2) pe_int (fun _ _ => rfl)) (pv 7)) pe_int)) (pa_cons (pe_op op_add pe_int (pe_op op_mod (pe_ix (ixlK K rfl) (pv 2) pe_int (fun _ _ => rfl)) pe_int)) pa_nil)))))) pa_nil)))
    (pss_one (ps_ret (pe_tup (pa_cons (pv 12) (pa_cons (pv 13) (pa_cons (pe_callTy call_tuple_of (by rfl) T.z_tuple (by decide +kernel) (pa_cons (pe_lc (own := [("name", 14)]) (g := gName 14) (tt := tYes) rfl sc_law_game.nd (pi_list (pv 5)) (blkOk_by (own := [("name", 14)]) (N := ["script", "at", "digits", "variables", "tables", "lots", "procs", "k", "names", "cells", "block", "result", "rows", "first", "name"]) (sc := defScope s_law_game) (by decide +kernel)) (fun _ _ _ _ _ => pg_name (i := 14) sc_law_game.nd rfl (Or.inl rfl)) (fun _ _ _ _ _ => pts_nil) (fun _ _ _ _ _ => (pe_tup (pa_cons (pv 14) (pa_cons (pe_op op_add pe_int (pe_op op_mod (pe_ix (ixlK K rfl) (pv 2) pe_int (fun _ _ => rfl)) pe_int)) (pa_cons pe_int pa_nil)))))) pa_nil)) (pa_cons (pe_callTy call_tuple_of (by rfl) T.z_tuple (by decide +kernel) (pa_cons (pv 6) pa_nil)) pa_nil))))))))))))))), ?_⟩
  have zero : (0 : Nat) ≤ sizeLine := by decide
  have two : (2 : Nat) ≤ sizeLine := by decide
  have three : (3 : Nat) ≤ sizeLine := by decide
  have five : (5 : Nat) ≤ sizeLine := by decide
  have six : (6 : Nat) ≤ sizeLine := by decide
  refine ⟨_, rfl, _, rfl, sa, ns, at_, rfl, hS, hat, _, _, _, rfl, by decide, by decide, by decide, by decide, fun dl ds H1 m1 hd1 dlen db => ?_⟩
  have hdl : ds.length = 14 := dlen
  have dig : ∀ i : Int, 0 ≤ i → i < 14 → ∃ d ∈ ds, atI (ds.map V.int) i = some (.int d) := fun i h0 h1 => dig_at h0 (by rw [hdl]; exact h1)
  -- variables
  obtain ⟨d0, hd0, e0⟩ := dig 0 (by decide) (by decide)
  refine ⟨two, fun p2 hp2 => ?_⟩
  have m2 := same_new hp2 (.lst [.str "x", .str "y"])
  refine ⟨_, rfl, dl, _, _, _, rfl, rfl, SqL.of (m2 _ _ hd1), e0, _, _, rfl, rfl, (by show (0 : Int) < 3; decide), _, rfl, p2, _, rfl, SqL.of upd_same, fun vl hvl => ?_⟩
  have d03 : 0 ≤ d0 % 3 ∧ d0 % 3 ≤ 2 := ⟨Int.emod_nonneg _ (by decide), by have := Int.emod_lt_of_pos d0 (by decide : (0 : Int) < 3); omega⟩
  have m3 := m1.trans (m2.trans (same_new hvl (.lst (cutV [.str "x", .str "y"] none (some (d0 % 3))))))
  have hV : (upd (upd H1 p2 (.lst [.str "x", .str "y"])) vl (.lst (cutV [.str "x", .str "y"] none (some (d0 % 3))))) vl = some (.lst ((([("x" : Str), "y"]).take (d0 % 3).toNat).map V.str)) := by rw [upd_same, cut2 d03.1 d03.2]
  have hD3 := (m2.trans (same_new hvl (.lst (cutV [.str "x", .str "y"] none (some (d0 % 3)))))) _ _ hd1
  revert m3 hV hD3
  generalize upd (upd H1 p2 (.lst [.str "x", .str "y"])) vl (.lst (cutV [.str "x", .str "y"] none (some (d0 % 3)))) = H3
  intro m3 hV hD3
  have tv := take2 (a := "x") (b := "y") (d0 % 3).toNat (by omega)
  generalize ([("x" : Str), "y"]).take (d0 % 3).toNat = vars at *
  clear m2 hd1
  -- tables
  obtain ⟨d1, hd1, e1⟩ := dig 1 (by decide) (by decide)
  refine ⟨two, fun p4 hp4 => ?_⟩
  have m4 := same_new hp4 (.lst [.str "t", .str "m"])
  refine ⟨five, fun p5 hp5 => ?_⟩
  have m5 := m4.trans (same_new hp5 (.tup [.int 0, .int 1, .int 0, .int 1, .int 2]))
  obtain ⟨nt, ent, nt0, nt2⟩ := tab5 (r := d1)
  refine ⟨_, rfl, dl, _, _, _, rfl, rfl, SqL.of (m5 _ _ hD3), e1, _, _, rfl, rfl, (by show (0 : Int) < 5; decide), p5, _, _, _, rfl, rfl, SqT.of upd_same, ent, _, rfl, p4, _, rfl, SqL.of (same_new hp5 _ _ _ upd_same), fun tl htl => ?_⟩
  have m6' := m5.trans (same_new htl (.lst (cutV [.str "t", .str "m"] none (some nt))))
  have hT : (upd (upd (upd H3 p4 (.lst [.str "t", .str "m"])) p5 (.tup [.int 0, .int 1, .int 0, .int 1, .int 2])) tl (.lst (cutV [.str "t", .str "m"] none (some nt)))) tl = some (.lst ((([("t" : Str), "m"]).take nt.toNat).map V.str)) := by rw [upd_same, cut2 nt0 nt2]
  have m6 := m3.trans m6'
  have hD6 := m6' _ _ hD3
  have hV6 := m6' _ _ hV
  revert m6 hT hD6 hV6
  generalize upd (upd (upd H3 p4 (.lst [.str "t", .str "m"])) p5 (.tup [.int 0, .int 1, .int 0, .int 1, .int 2])) tl (.lst (cutV [.str "t", .str "m"] none (some nt))) = H6
  intro hT m6 hD6 hV6
  have tt := take2 (a := "t") (b := "m") nt.toNat (by omega)
  generalize ([("t" : Str), "m"]).take nt.toNat = tabs at *
  clear m6' m5 m4 hD3 hV m3
  -- lots
  obtain ⟨d2, hd2, e2⟩ := dig 2 (by decide) (by decide)
  refine ⟨two, fun p7 hp7 => ?_⟩
  have m7 := same_new hp7 (.lst [.str "o", .str "k"])
  have d23 : 0 ≤ d2 % 3 ∧ d2 % 3 ≤ 2 := ⟨Int.emod_nonneg _ (by decide), by have := Int.emod_lt_of_pos d2 (by decide : (0 : Int) < 3); omega⟩
  refine ⟨_, rfl, dl, _, _, _, rfl, rfl, SqL.of (m7 _ _ hD6), e2, _, _, rfl, rfl, (by show (0 : Int) < 3; decide), _, rfl, p7, _, rfl, SqL.of upd_same, fun ll hll => ?_⟩
  have m8' := m7.trans (same_new hll (.lst (cutV [.str "o", .str "k"] none (some (d2 % 3)))))
  have hL : (upd (upd H6 p7 (.lst [.str "o", .str "k"])) ll (.lst (cutV [.str "o", .str "k"] none (some (d2 % 3))))) ll = some (.lst ((([("o" : Str), "k"]).take (d2 % 3).toNat).map V.str)) := by rw [upd_same, cut2 d23.1 d23.2]
  have m8 := m6.trans m8'
  have hD8 := m8' _ _ hD6
  have hV8 := m8' _ _ hV6
  have hT8 := m8' _ _ hT
  revert m8 hL hD8 hV8 hT8
  generalize upd (upd H6 p7 (.lst [.str "o", .str "k"])) ll (.lst (cutV [.str "o", .str "k"] none (some (d2 % 3)))) = H8
  intro hL m8 hD8 hV8 hT8
  have tl' := take2 (a := "o") (b := "k") (d2 % 3).toNat (by omega)
  generalize ([("o" : Str), "k"]).take (d2 % 3).toNat = lots at *
  clear m8' m7 hD6 hV6 hT m6
  -- procs
  refine ⟨zero, fun pl hpl => ?_⟩
  obtain ⟨d3, hd3, e3⟩ := dig 3 (by decide) (by decide)
  have st9 := Acc.start (K := K) hpl
  refine ⟨_, rfl, dl, _, _, _, rfl, rfl, SqL.of (st9.s _ _ hD8), e3, _, _, rfl, rfl, (by show (0 : Int) < 2; decide), _, _, rfl, rfl, _, rfl, by have := mod2 d3; omega, by have := mod2 d3; omega, ?_⟩
  refine for_range (lo := 0) (n := (1 + d3 % 2).toNat) (fun i σ H' => ∃ (vs : List V) (ps : List Pr) (w1 w2 w3 w4 w5 w6 w7 w8 : Option V), σ = [some (.ref sa), some (.int at_), some (.ref dl), some (.ref vl), some (.ref tl), some (.ref ll), some (.ref pl), w1, w2, w3, w4, w5, w6, w7, w8] ∧
    Acc K H8 H' pl vs (ps.map Pr.d) ∧ ps.length = i ∧ ps.map (·.name) = ([("p" : Str), "r"]).take i ∧ ∀ p ∈ ps, (1 ≤ p.size ∧ p.size ≤ 3) ∧ (2 ≤ p.ans ∧ p.ans ≤ 4) ∧ (p.locs = ([("g" : Str), "a"] : List Str) ∨ p.locs = ([("g" : Str), "a", "b"] : List Str)) ∧
      p.block.Ok ⟨p.locs, vars, tabs, lots, []⟩ 3 2 ∧ (1 ≤ p.block.len ∧ p.block.len ≤ 4) ∧ p.res.Ok ⟨p.locs, vars, tabs, lots, []⟩ 3)
    ⟨[], [], none, none, none, none, none, none, none, none, rfl, st9, rfl, rfl, fun p hp => nomatch hp⟩ ?_ ?_
  · rintro i σ H9 hi ⟨vs, ps, w1, w2, w3, w4, w5, w6, w7, w8, rfl, ac, pn, pnm, pok⟩
    have hi2 : i = 0 ∨ i = 1 := by have := mod2 d3; omega
    have hD9 := ac.s _ _ hD8
    have hV9 := ac.s _ _ hV8
    have hT9 := ac.s _ _ hT8
    have hL9 := ac.s _ _ hL
    obtain ⟨d4, hd4, e4⟩ := dig (4 + (0 + (i : Int))) (by omega) (by omega)
    obtain ⟨d6, hd6, e6⟩ := dig (6 + (0 + (i : Int))) (by omega) (by omega)
    obtain ⟨d8, hd8, e8⟩ := dig (8 + (0 + (i : Int))) (by omega) (by omega)
    obtain ⟨d9, hd9, e9⟩ := dig 9 (by decide) (by decide)
    obtain ⟨d10, hd10, e10⟩ := dig (10 + (0 + (i : Int))) (by omega) (by omega)
    obtain ⟨d12, hd12, e12⟩ := dig (12 + (0 + (i : Int))) (by omega) (by omega)
    refine ⟨three, fun p10 hp10 => ?_⟩
    have n10 := same_new hp10 (.tup [.str "g", .str "a", .str "b"])
    refine ⟨_, rfl, _, rfl, _, _, rfl, rfl, dl, _, _, _, rfl, rfl, SqL.of (n10 _ _ hD9), e4, _, _, rfl, rfl, (by show (0 : Int) < 2; decide), _, _, rfl, rfl, _, rfl, p10, _, rfl, SqT.of upd_same, fun na H10 m10 hN => ?_⟩
    have nmx : ∃ nm : List Str, SqT K H10 na (nm.map V.str) ∧ (nm = ([("g" : Str), "a"] : List Str) ∨ nm = ([("g" : Str), "a", "b"] : List Str)) := by
      rcases cut3 (r := d4 % 2) (Int.emod_nonneg _ (by decide)) (Int.emod_lt_of_pos _ (by decide)) with e | e
      · exact ⟨_, e ▸ hN, .inl rfl⟩
      · exact ⟨_, e ▸ hN, .inr rfl⟩
    obtain ⟨nm, hNm, hnm⟩ := nmx
    have nm0 : nm ≠ [] := by rcases hnm with rfl | rfl <;> exact List.cons_ne_nil _ _
    have m910 := n10.trans m10
    -- cells
    have hS10 := (m8.trans (ac.s.trans m910)).seq hS
    have hD10 := m910 _ _ hD9
    refine ⟨_, rfl, _, rfl, _, _, rfl, rfl, _, rfl, _, _, rfl, rfl, sa, ns, _, rfl, hS10, by omega, ?_⟩
    refine ⟨_, rfl, _, rfl, _, _, rfl, rfl, dl, _, _, _, rfl, rfl, SqL.of hD10, e6, _, _, rfl, rfl, (by show (0 : Int) < 4; decide), _, _, rfl, rfl, _, _, rfl, rfl, ⟨by decide, by decide, by decide⟩, ?_⟩
    have d64 : 0 ≤ d6 % 4 ∧ d6 % 4 < 4 := ⟨Int.emod_nonneg _ (by decide), Int.emod_lt_of_pos _ (by decide)⟩
    refine ⟨_, _, _, rfl, by omega, by omega, by decide, by decide, fun cl cs H11 m11 hC clen cb => ?_⟩
    have hclen : cs.length = (1 + d6 % 4).toNat := clen
    -- block
    have m911 := m910.trans m11
    have hA : At K ⟨nm, vars, tabs, lots, []⟩ H11 na vl tl := ⟨sqT_mono m11 hNm, SqL.of (m911 _ _ hV9), SqL.of (m911 _ _ hT9), nm0⟩
    refine ⟨_, rfl, _, rfl, _, rfl, _, rfl, _, rfl, cl, na, vl, tl, ll, cs, ⟨nm, vars, tabs, lots, []⟩, rfl, SqL.of hC, by omega, hA, SqL.of (m911 _ _ hL9), fun bv b H12 m12 db ob lb => ?_⟩
    have m912 := m911.trans m12
    have hD12 := m912 _ _ hD9
    -- result
    refine ⟨_, rfl, _, rfl, _, _, rfl, rfl, dl, _, _, _, rfl, rfl, SqL.of hD12, e8, _, _, rfl, rfl, .inr ⟨by decide, by decide⟩, _, rfl, dl, _, _, _, rfl, rfl, SqL.of hD12, e9, _, _, rfl, rfl, ?_⟩
    refine ⟨_, rfl, _, rfl, _, rfl, _, na, vl, tl, ⟨nm, vars, tabs, lots, []⟩, rfl, hA.mono m12, fun rv e H13 m13 de oe => ?_⟩
    have m913 := m912.trans m13
    have hD13 := m913 _ _ hD9
    -- append
    refine ⟨_, rfl, .inl ⟨rfl, _, SqL.of (m913 _ _ ac.l)⟩, _, rfl, ?_⟩
    have nmi : ∃ c : Nat, atI (("pr" : Str).cps.toList) (0 + (i : Int)) = some c ∧ ([("p" : Str), "r"]).take (i + 1) = ([("p" : Str), "r"]).take i ++ [⟨#[c]⟩] := by
      rcases hi2 with rfl | rfl
      · exact ⟨112, rfl, rfl⟩
      · exact ⟨114, rfl, rfl⟩
    obtain ⟨c, ec, enm⟩ := nmi
    refine ⟨_, _, c, rfl, rfl, by decide, ec, ?_⟩
    have d103 : 0 ≤ d10 % 3 ∧ d10 % 3 < 3 := ⟨Int.emod_nonneg _ (by decide), Int.emod_lt_of_pos _ (by decide)⟩
    have d123 : 0 ≤ d12 % 3 ∧ d12 % 3 < 3 := ⟨Int.emod_nonneg _ (by decide), Int.emod_lt_of_pos _ (by decide)⟩
    refine ⟨_, rfl, _, rfl, _, _, rfl, rfl, dl, _, _, _, rfl, rfl, SqL.of hD13, e10, _, _, rfl, rfl, (by show (0 : Int) < 3; decide), _, _, rfl, rfl, ?_⟩
    refine ⟨_, rfl, _, rfl, _, _, rfl, rfl, dl, _, _, _, rfl, rfl, SqL.of hD13, e12, _, _, rfl, rfl, (by show (0 : Int) < 3; decide), _, _, rfl, rfl, ?_⟩
    refine ⟨_, rfl, _, rfl, _, rfl, six, fun p14 hp14 => ?_⟩
    have n14 := same_new hp14 (.tup [.str ⟨#[c]⟩, .int (1 + d10 % 3), .int (2 + d12 % 3), .ref na, bv, rv])
    have dpr : Dp K (upd H13 p14 (.tup [.str ⟨#[c]⟩, .int (1 + d10 % 3), .int (2 + d12 % 3), .ref na, bv, rv])) (.ref p14) (Pr.mk ⟨#[c]⟩ (1 + d10 % 3) (2 + d12 % 3) nm b e).d :=
      dp_tup hp14 (.cons (.str _) (.cons (.int _) (.cons (.int _) (.cons (.tup (sqT_mono (m11.trans (m12.trans m13)) hNm) (dp_strs nm)) (.cons (dp_mono m13 _ _ db) (.cons de .nil))))))
    have m914 := m913.trans n14
    have ac14 := (ac.grow m914).add dpr (Pr.nol _)
    refine ⟨pl, vs, _, rfl, rfl, m914 _ _ ac.l, by have := ac.len; rw [List.length_map] at this; exact small1000 (by omega), ?_⟩
    refine ⟨_, ps ++ [Pr.mk ⟨#[c]⟩ (1 + d10 % 3) (2 + d12 % 3) nm b e], _, _, _, _, _, _, _, _, rfl, by rw [List.map_append]; exact ac14, by rw [List.length_append, pn]; rfl, by rw [List.map_append, pnm, enm]; rfl, fun p hp => ?_⟩
    rcases List.mem_append.mp hp with z | z
    · exact pok p z
    · rw [List.mem_singleton.mp z]
      exact ⟨⟨by show 1 ≤ 1 + d10 % 3; omega, by show 1 + d10 % 3 ≤ 3; omega⟩, ⟨by show 2 ≤ 2 + d12 % 3; omega, by show 2 + d12 % 3 ≤ 4; omega⟩, hnm, ob, ⟨by rw [lb, hclen]; omega, by rw [lb, hclen]; omega⟩, oe⟩
  · rintro σ H9 ⟨vs, ps, w1, w2, w3, w4, w5, w6, w7, w8, rfl, ac, pn, pnm, pok⟩
    have hD9 := ac.s _ _ hD8
    have hV9 := ac.s _ _ hV8
    have hT9 := ac.s _ _ hT8
    have hL9 := ac.s _ _ hL
    have lv : vars.length ≤ 2 := by rcases tv with h | h | h <;> rw [h] <;> decide
    have lt : tabs.length ≤ 2 := by rcases tt with h | h | h <;> rw [h] <;> decide
    have ll2 : lots.length ≤ 2 := by rcases tl' with h | h | h <;> rw [h] <;> decide
    -- rows
    obtain ⟨d5, hd5, e5⟩ := dig 5 (by decide) (by decide)
    refine ⟨_, rfl, vl, _, rfl, .inl (SqL.of hV9), _, rfl, by omega, by rw [List.length_map]; omega, fun D hD => ?_⟩
    refine lc_range (lo := 0) (n := _) (fun i H' => ∃ (vs : List V) (ts : List (Str × Int × Int)), Acc K H9 H' D vs (ts.map trip) ∧ ts.length = i ∧ ts.map (·.1) = vars.take i ∧ ∀ t ∈ ts, (t.2.1 = 2 ∨ t.2.1 = 3 ∨ t.2.1 = 65535) ∧ (t.2.2 = 0 ∨ t.2.2 = 1))
      ⟨[], [], Acc.start hD, rfl, rfl, fun t ht => nomatch ht⟩ ?_ ?_
    · rintro i H10 hi ⟨us, ts, a10, tn, tnm, tok⟩
      obtain ⟨x, hx, ex⟩ := str_at hi
      rw [List.length_map] at hi
      obtain ⟨d7, hd7, e7⟩ := dig (7 + (0 + (i : Int))) (by omega) (by omega)
      obtain ⟨z, ez, hz⟩ := siz3 (r := d5)
      refine ⟨rfl, ?_⟩
      refine ⟨_, rfl, _, rfl, vl, _, _, _, rfl, rfl, SqL.of (a10.s _ _ hV9), ex, three, fun p11 hp11 => ?_⟩
      have n11 := same_new hp11 (.tup [.int 2, .int 3, .int 65535])
      refine ⟨_, rfl, dl, _, _, _, rfl, rfl, SqL.of (n11 _ _ (a10.s _ _ hD9)), e5, _, _, rfl, rfl, (by show (0 : Int) < 3; decide), p11, _, _, _, rfl, rfl, SqT.of upd_same, ez, ?_⟩
      refine ⟨_, rfl, _, rfl, _, _, rfl, rfl, dl, _, _, _, rfl, rfl, SqL.of (n11 _ _ (a10.s _ _ hD9)), e7, _, _, rfl, rfl, (by show (0 : Int) < 2; decide), three, fun p12 hp12 => ?_⟩
      have n12 := n11.trans (same_new hp12 (.tup [.str x, .int z, .int (d7 % 2)]))
      have dt : Dp K _ (.ref p12) (trip (x, z, d7 % 2)) := dp_tup hp12 (.cons (.str _) (.cons (.int _) (.cons (.int _) .nil)))
      have a12 := (a10.grow n12).add dt rfl
      refine ⟨us, (a10.grow n12).l, by have := a10.len; rw [List.length_map] at this; exact small1000 (by omega), _, ts ++ [(x, z, d7 % 2)], by rw [List.map_append]; exact a12, by rw [List.length_append, tn]; rfl, by rw [List.map_append, tnm, take_more hx]; rfl, fun t ht => ?_⟩
      rcases List.mem_append.mp ht with h | h
      · exact tok t h
      · rw [List.mem_singleton.mp h]
        exact ⟨hz, mod2 d7⟩
    rintro H10 ⟨us, ts, a10, tn, tnm, tok⟩
    have tnm' : ts.map (·.1) = vars := by rw [tnm, List.length_map, Int.toNat_natCast, List.take_length]
    refine ⟨D, us, rfl, .inl ⟨SqL.of a10.l, fun rp hrp => ?_⟩⟩
    have drows : Dp K (upd H10 rp (.tup us)) (.ref rp) (trips ts) := dp_tup hrp a10.d
    have m911 := a10.s.trans (same_new hrp (.tup us))
    revert drows m911
    generalize upd H10 rp (.tup us) = H11
    intro drows m911
    clear a10 tnm hD
    -- first
    obtain ⟨d11, hd11, e11⟩ := dig 11 (by decide) (by decide)
    obtain ⟨d13, hd13, e13⟩ := dig 13 (by decide) (by decide)
    have hD11 := m911 _ _ hD9
    have hT11 := m911 _ _ hT9
    refine ⟨_, rfl, tl, _, rfl, .inl (SqL.of hT11), _, rfl, by omega, by rw [List.length_map]; omega, fun D2 hD2 => ?_⟩
    refine lc_range (lo := 0) (n := _) (fun i H' => ∃ (vs : List V) (ss : List (Str × Int × Int)), Acc K H11 H' D2 vs (ss.map trip) ∧ ss.length = i ∧ ss.map (·.1) = tabs.take i ∧ ∀ t ∈ ss, (t.2.1 = 2 ∨ t.2.1 = 3) ∧ (t.2.2 = 2 ∨ t.2.2 = 3))
      ⟨[], [], Acc.start hD2, rfl, rfl, fun t ht => nomatch ht⟩ ?_ ?_
    · rintro i H12 hi ⟨us2, ss, a12, sn, snm, sok⟩
      obtain ⟨x, hx, ex⟩ := str_at hi
      rw [List.length_map] at hi
      refine ⟨rfl, ?_⟩
      refine ⟨_, rfl, _, rfl, tl, _, _, _, rfl, rfl, SqL.of (a12.s _ _ hT11), ex, ?_⟩
      refine ⟨_, rfl, dl, _, _, _, rfl, rfl, SqL.of (a12.s _ _ hD11), e11, _, rfl, _, _, rfl, rfl, _, _, rfl, rfl, (by show (0 : Int) < 2; decide), _, _, rfl, rfl, ?_⟩
      refine ⟨_, rfl, dl, _, _, _, rfl, rfl, SqL.of (a12.s _ _ hD11), e13, _, _, rfl, rfl, (by show (0 : Int) < 2; decide), _, _, rfl, rfl, three, fun p13 hp13 => ?_⟩
      have n13 := same_new hp13 (.tup [.str x, .int (2 + (d11 + (0 + (i : Int))) % 2), .int (2 + d13 % 2)])
      have dt : Dp K _ (.ref p13) (trip (x, 2 + (d11 + (0 + (i : Int))) % 2, 2 + d13 % 2)) := dp_tup hp13 (.cons (.str _) (.cons (.int _) (.cons (.int _) .nil)))
      have a13 := (a12.grow n13).add dt rfl
      refine ⟨us2, (a12.grow n13).l, by have := a12.len; rw [List.length_map] at this; exact small1000 (by omega), _, ss ++ [(x, 2 + (d11 + (0 + (i : Int))) % 2, 2 + d13 % 2)], by rw [List.map_append]; exact a13, by rw [List.length_append, sn]; rfl, by rw [List.map_append, snm, take_more hx]; rfl, fun t ht => ?_⟩
      rcases List.mem_append.mp ht with h | h
      · exact sok t h
      · rw [List.mem_singleton.mp h]
        refine ⟨?_, ?_⟩
        · show 2 + (d11 + (0 + (i : Int))) % 2 = 2 ∨ 2 + (d11 + (0 + (i : Int))) % 2 = 3
          omega
        · show 2 + d13 % 2 = 2 ∨ 2 + d13 % 2 = 3
          omega
    rintro H12 ⟨us2, ss, a12, sn, snm, sok⟩
    have snm' : ss.map (·.1) = tabs := by rw [snm, List.length_map, Int.toNat_natCast, List.take_length]
    refine ⟨D2, us2, rfl, .inl ⟨SqL.of a12.l, fun fp hfp => ?_⟩⟩
    have dfirst : Dp K (upd H12 fp (.tup us2)) (.ref fp) (trips ss) := dp_tup hfp a12.d
    have m1113 := a12.s.trans (same_new hfp (.tup us2))
    have drows13 := dp_mono m1113 _ _ drows
    have m913 := m911.trans m1113
    revert dfirst m1113 drows13 m913
    generalize upd H12 fp (.tup us2) = H13
    intro dfirst m1113 drows13 m913
    clear a12 snm hD2 drows
    -- lots and procs
    obtain ⟨d12, hd12, e12⟩ := dig 12 (by decide) (by decide)
    have hD13 := m913 _ _ hD9
    have hL13 := m913 _ _ hL9
    refine ⟨_, rfl, _, rfl, _, rfl, ll, rfl, ⟨_, SqL.of hL13⟩, fun D3 hD3 => ?_⟩
    refine lc_list (K := K) (a := ll) (xs := lots.map V.str) (fun i H' => ∃ (vs : List V) (qs : List (Str × Int × Int)), Acc K H13 H' D3 vs (qs.map trip) ∧ qs.length = i ∧ qs.map (·.1) = lots.take i ∧ ∀ t ∈ qs, (t.2.1 = 2 ∨ t.2.1 = 3) ∧ t.2.2 = 2)
      ⟨[], [], Acc.start hD3, rfl, rfl, fun t ht => nomatch ht⟩ (fun i H' _ ⟨_, _, a, _⟩ => SqL.of (a.s _ _ hL13)) ?_ ?_
    · rintro i y H14 hy ⟨us3, qs, a14, qn, qnm, qok⟩
      obtain ⟨x, hx, rfl⟩ : ∃ x, lots[i]? = some x ∧ y = V.str x := by
        rw [List.getElem?_map] at hy
        cases e : lots[i]? with
        | none => rw [e] at hy; cases hy
        | some z => rw [e] at hy; exact ⟨z, rfl, (Option.some.inj hy).symm⟩
      have hi : i < lots.length := (List.getElem?_eq_some_iff.mp hx).1
      refine ⟨rfl, ?_⟩
      refine ⟨_, rfl, _, rfl, dl, _, _, _, rfl, rfl, SqL.of (a14.s _ _ hD13), e12, _, _, rfl, rfl, (by show (0 : Int) < 2; decide), _, _, rfl, rfl, three, fun p15 hp15 => ?_⟩
      have n15 := same_new hp15 (.tup [.str x, .int (2 + d12 % 2), .int 2])
      have dt : Dp K _ (.ref p15) (trip (x, 2 + d12 % 2, 2)) := dp_tup hp15 (.cons (.str _) (.cons (.int _) (.cons (.int _) .nil)))
      have a15 := (a14.grow n15).add dt rfl
      refine ⟨us3, (a14.grow n15).l, by have := a14.len; rw [List.length_map] at this; exact small1000 (by omega), _, qs ++ [(x, 2 + d12 % 2, 2)], by rw [List.map_append]; exact a15, by rw [List.length_append, qn]; rfl, by rw [List.map_append, qnm, take_more hx]; rfl, fun t ht => ?_⟩
      rcases List.mem_append.mp ht with h | h
      · exact qok t h
      · rw [List.mem_singleton.mp h]
        refine ⟨?_, rfl⟩
        show 2 + d12 % 2 = 2 ∨ 2 + d12 % 2 = 3
        omega
    rintro H14 ⟨us3, qs, a14, qn, qnm, qok⟩
    have qnm' : qs.map (·.1) = lots := by rw [qnm, List.length_map, List.take_length]
    refine ⟨D3, us3, rfl, .inl ⟨SqL.of a14.l, fun lp hlp => ?_⟩⟩
    have dlots : Dp K (upd H14 lp (.tup us3)) (.ref lp) (trips qs) := dp_tup hlp a14.d
    have m1315 := a14.s.trans (same_new hlp (.tup us3))
    have m915 := m913.trans m1315
    have ac15 := ac.grow m915
    refine ⟨_, rfl, pl, vs, rfl, .inl ⟨SqL.of ac15.l, fun pp hpp => ?_⟩⟩
    have n16 := same_new hpp (.tup vs)
    have dprocs := dp_tup (K := K) hpp ac15.d
    refine ⟨by show 4 ≤ sizeLine; decide, fun gp hgp => ?_⟩
    have n17 := same_new hgp (.tup [.ref rp, .ref fp, .ref lp, .ref pp])
    have n1617 := n16.trans n17
    refine q _ ⟨ts, ss, qs, ps⟩ _ (m8.trans (ac.s.trans (m915.trans n1617))) ?_ ⟨by rw [tnm']; exact tv, tok, by rw [snm']; exact tt, sok, by rw [qnm']; exact tl', qok, ?_, ?_⟩
    · exact dp_tup hgp (.cons (dp_mono (m1315.trans n16) _ _ drows13) (.cons (dp_mono (m1315.trans n16) _ _ dfirst) (.cons (dp_mono n16 _ _ dlots) (.cons dprocs .nil))))
    · show ps.map (·.name) = ([("p" : Str)] : List Str) ∨ ps.map (·.name) = ([("p" : Str), "r"] : List Str)
      rw [pnm]
      rcases mod2 d3 with h | h <;> rw [h]
      · exact .inl rfl
      · exact .inr rfl
    · intro p hp
      obtain ⟨a1, a2, a3, a4, a5, a6⟩ := pok p hp
      have esc : (Ga.mk ts ss qs ps).sc p.locs [] = ⟨p.locs, vars, tabs, lots, []⟩ := by
        show Sc.mk p.locs (ts.map (·.1)) (ss.map (·.1)) (qs.map (·.1)) [] = _
        rw [tnm', snm', qnm']
      exact ⟨a1, a2, a3, by rw [esc]; exact a4, a5, by rw [esc]; exact a6⟩
end
end Toy
set_option Elab.async false
set_option linter.all false
set_option maxRecDepth 100000
set_option maxHeartbeats 4000000
/-! Games as data that are compared: plain data, depths, no two alike. -/
namespace Gm
open PySem L2
open PyData (strOk)
/-! ### plain data -/
mutual
def pln : PyData → Bool
  | .int _ => true
  | .str x => strOk x
  | .list xs => plnAll xs
  | .tuple xs => plnAll xs
  | _ => false
def plnAll : List PyData → Bool
  | [] => true
  | x :: xs => pln x && plnAll xs
end
mutual
theorem eqv_eq : ∀ d e : PyData, pln d = true → pln e = true → PyData.eqv d e = true → d = e
  | .int i, e, _, he, h => by
    cases e with
    | int j => simp [PyData.eqv] at h; rw [h]
    | str _ => simp [PyData.eqv] at h
    | list _ => simp [PyData.eqv] at h
    | tuple _ => simp [PyData.eqv] at h
    | _ => cases he
  | .str i, e, _, he, h => by
    cases e with
    | str j => simp [PyData.eqv] at h; rw [h]
    | int _ => simp [PyData.eqv] at h
    | list _ => simp [PyData.eqv] at h
    | tuple _ => simp [PyData.eqv] at h
    | _ => cases he
  | .list xs, e, hd, he, h => by
    cases e with
    | list ys => exact congrArg PyData.list (eqv_eqs xs ys hd he (by simpa [PyData.eqv] using h))
    | int _ => simp [PyData.eqv] at h
    | str _ => simp [PyData.eqv] at h
    | tuple _ => simp [PyData.eqv] at h
    | _ => cases he
  | .tuple xs, e, hd, he, h => by
    cases e with
    | tuple ys => exact congrArg PyData.tuple (eqv_eqs xs ys hd he (by simpa [PyData.eqv] using h))
    | int _ => simp [PyData.eqv] at h
    | str _ => simp [PyData.eqv] at h
    | list _ => simp [PyData.eqv] at h
    | _ => cases he
  | .none, _, hd, _, _ => by cases hd
  | .bool _, _, hd, _, _ => by cases hd
  | .dict _, _, hd, _, _ => by cases hd
theorem eqv_eqs : ∀ ds es : List PyData, plnAll ds = true → plnAll es = true → PyData.eqvAll ds es = true → ds = es
  | [], [], _, _, _ => rfl
  | [], _ :: _, _, _, h => by simp [PyData.eqvAll] at h
  | _ :: _, [], _, _, h => by simp [PyData.eqvAll] at h
  | d :: ds, e :: es, hd, he, h => by
    simp only [PyData.eqvAll, Bool.and_eq_true] at h
    have hd' : (pln d && plnAll ds) = true := hd
    have he' : (pln e && plnAll es) = true := he
    rw [Bool.and_eq_true] at hd' he'
    rw [eqv_eq d e hd'.1 he'.1 h.1, eqv_eqs ds es hd'.2 he'.2 h.2]
end
mutual
theorem eqv_rfl : ∀ d : PyData, pln d = true → PyData.eqv d d = true
  | .int i, _ => by simp [PyData.eqv]
  | .str i, _ => by simp [PyData.eqv]
  | .list xs, h => by simp only [PyData.eqv]; exact eqv_rfls xs h
  | .tuple xs, h => by simp only [PyData.eqv]; exact eqv_rfls xs h
  | .none, h => by cases h
  | .bool _, h => by cases h
  | .dict _, h => by cases h
theorem eqv_rfls : ∀ ds : List PyData, plnAll ds = true → PyData.eqvAll ds ds = true
  | [], _ => rfl
  | d :: ds, h => by
    have h' : (pln d && plnAll ds) = true := h
    rw [Bool.and_eq_true] at h'
    simp only [PyData.eqvAll, Bool.and_eq_true]
    exact ⟨eqv_rfl d h'.1, eqv_rfls ds h'.2⟩
end
theorem eqv_iff {d e : PyData} (hd : pln d = true) (he : pln e = true) : PyData.eqv d e = true ↔ d = e := ⟨eqv_eq d e hd he, fun h => by rw [h]; exact eqv_rfl e he⟩
mutual
theorem pln_lay : ∀ d : PyData, pln d = true → d.canLay0 = true
  | .int i, _ => by simp [PyData.canLay0]
  | .str i, h => by rw [PyData.canLay0]; exact h
  | .list xs, h => by rw [PyData.canLay0]; exact pln_lays xs h
  | .tuple xs, h => by rw [PyData.canLay0]; exact pln_lays xs h
  | .none, h => by cases h
  | .bool _, h => by cases h
  | .dict _, h => by cases h
theorem pln_lays : ∀ ds : List PyData, plnAll ds = true → PyData.canLayAll0 ds = true
  | [], _ => by simp [PyData.canLayAll0]
  | d :: ds, h => by
    have h' : (pln d && plnAll ds) = true := h
    rw [Bool.and_eq_true] at h'
    rw [PyData.canLayAll0, Bool.and_eq_true]
    exact ⟨pln_lay d h'.1, pln_lays ds h'.2⟩
end
/-- plain, and at most n deep -/
def Fit (n : Nat) (d : PyData) : Prop := pln d = true ∧ d.depth ≤ n
theorem Fit.mono {n m : Nat} {d : PyData} (h : Fit n d) (l : n ≤ m) : Fit m d := ⟨h.1, Nat.le_trans h.2 l⟩
theorem Fit.shaped {n : Nat} {d : PyData} (h : Fit n d) (l : n ≤ 64) : SeqAt.shaped d = true := by
  unfold SeqAt.shaped
  rw [Bool.and_eq_true]
  exact ⟨pln_lay _ h.1, decide_eq_true (Nat.le_trans h.2 l)⟩
theorem Fit.int {n : Nat} {i : Int} : Fit n (.int i) := ⟨rfl, by simp [PyData.depth]⟩
theorem Fit.str {n : Nat} {x : Str} (h : strOk x = true) : Fit n (.str x) := ⟨h, by simp [PyData.depth]⟩
def FitAll (n : Nat) (ds : List PyData) : Prop := plnAll ds = true ∧ PyData.depthAll ds ≤ n
theorem FitAll.nil {n : Nat} : FitAll n [] := ⟨rfl, by simp [PyData.depthAll]⟩
theorem FitAll.cons {n : Nat} {d : PyData} {ds : List PyData} (h : Fit n d) (t : FitAll n ds) : FitAll n (d :: ds) := by
  refine ⟨?_, ?_⟩
  · show (pln d && plnAll ds) = true
    rw [h.1, t.1]
    rfl
  · rw [PyData.depthAll]
    exact Nat.max_le.mpr ⟨h.2, t.2⟩
theorem FitAll.of {n : Nat} {ds : List PyData} : (∀ d ∈ ds, Fit n d) → FitAll n ds := fun h => by
  induction ds with
  | nil => exact .nil
  | cons d ds ih => exact .cons (h d (List.mem_cons_self ..)) (ih fun x hx => h x (List.mem_cons_of_mem _ hx))
theorem FitAll.app {n : Nat} : ∀ {ds es : List PyData}, FitAll n ds → FitAll n es → FitAll n (ds ++ es)
  | [], _, _, h => h
  | d :: ds, es, h, t => by
    have h' : (pln d && plnAll ds) = true := h.1
    rw [Bool.and_eq_true] at h'
    have h2 := h.2
    rw [PyData.depthAll] at h2
    have h3 := Nat.max_le.mp h2
    exact .cons ⟨h'.1, h3.1⟩ (FitAll.app ⟨h'.2, h3.2⟩ t)
theorem FitAll.tup {n : Nat} {ds : List PyData} (h : FitAll n ds) : Fit (n + 1) (.tuple ds) := ⟨h.1, by rw [PyData.depth]; exact Nat.succ_le_succ h.2⟩
theorem FitAll.lst {n : Nat} {ds : List PyData} (h : FitAll n ds) : Fit (n + 1) (.list ds) := ⟨h.1, by rw [PyData.depth]; exact Nat.succ_le_succ h.2⟩
/-! ### expressions and statements without a scope -/
def nmB (x : Str) : Bool := strOk x && decide (x.length ≤ 100)
theorem nm_ok {x : Str} (h : nmB x = true) : strOk x = true := (Bool.and_eq_true_iff.mp h).1
theorem nm_len {x : Str} (h : nmB x = true) : x.length ≤ 100 := of_decide_eq_true (Bool.and_eq_true_iff.mp h).2
def exF : Nat → Ex → Prop
  | 0, _ => False
  | _ + 1, .num n => 0 ≤ n ∧ n ≤ 65535
  | _ + 1, .loc x => nmB x = true
  | _ + 1, .var x => nmB x = true
  | k + 1, .has t e => nmB t = true ∧ exF k e
  | k + 1, .cell t e => nmB t = true ∧ exF k e
  | k + 1, .op o a b => o ∈ ops ∧ exF k a ∧ exF k b
mutual
def stF (k : Nat) : Nat → Stm → Prop
  | _, .set x e => nmB x = true ∧ exF k e
  | _, .lt l e => nmB l = true ∧ exF k e
  | _, .draw l n => nmB l = true ∧ 0 ≤ n ∧ n ≤ 65535
  | _, .put t e f => nmB t = true ∧ exF k e ∧ exF k f
  | _, .lot l o e => nmB l = true ∧ nmB o = true ∧ exF k e
  | _, .ask l p e => nmB l = true ∧ nmB p = true ∧ exF k e
  | 0, .ite _ _ _ => False
  | d + 1, .ite e a b => exF k e ∧ blF k d a ∧ blF k d b ∧ a.len ≤ 50 * k + 50 ∧ b.len ≤ 50 * k + 50
  | _, .bad => True
  | 0, .after _ => False
  | d + 1, .after a => blF k d a ∧ a.len ≤ 50 * k + 50
def blF (k : Nat) : Nat → Blk → Prop
  | _, .nil => True
  | d, .cons x r => stF k d x ∧ blF k d r
end
structure ScN (s : Sc) : Prop where
  l : ∀ x ∈ s.locs, nmB x = true
  v : ∀ x ∈ s.vars, nmB x = true
  t : ∀ x ∈ s.tabs, nmB x = true
  o : ∀ x ∈ s.lots, nmB x = true
  a : ∀ x ∈ s.asks, nmB x = true
theorem exF.ofOk {s : Sc} (hs : ScN s) : ∀ {k : Nat} {e : Ex}, e.Ok s k → exF k e
  | 0, _, h => h.elim
  | _ + 1, .num _, h => h
  | _ + 1, .loc x, h => hs.l x h
  | _ + 1, .var x, h => hs.v x h
  | k + 1, .has t e, h => ⟨hs.t t h.1, exF.ofOk hs h.2⟩
  | k + 1, .cell t e, h => ⟨hs.t t h.1, exF.ofOk hs h.2⟩
  | k + 1, .op o a b, h => ⟨h.1, exF.ofOk hs h.2.1, exF.ofOk hs h.2.2⟩
mutual
theorem stF.ofOk {s : Sc} (hs : ScN s) {k : Nat} : ∀ {d : Nat} {x : Stm}, x.Ok s k d → stF k d x
  | d, .set x e, h => by unfold Stm.Ok at h; unfold stF; exact ⟨hs.v _ h.1, .ofOk hs h.2⟩
  | d, .lt x e, h => by unfold Stm.Ok at h; unfold stF; exact ⟨hs.l _ h.1, .ofOk hs h.2⟩
  | d, .draw l n, h => by unfold Stm.Ok at h; unfold stF; exact ⟨hs.l _ h.1, by omega, by omega⟩
  | d, .put t e f, h => by unfold Stm.Ok at h; unfold stF; exact ⟨hs.t _ h.1, .ofOk hs h.2.1, .ofOk hs h.2.2⟩
  | d, .lot l o e, h => by unfold Stm.Ok at h; unfold stF; exact ⟨hs.l _ h.1, hs.o _ h.2.1, .ofOk hs h.2.2⟩
  | d, .ask l p e, h => by unfold Stm.Ok at h; unfold stF; exact ⟨hs.l _ h.1, hs.a _ h.2.1, .ofOk hs h.2.2⟩
  | 0, .ite _ _ _, h => by unfold Stm.Ok at h; exact h.elim
  | d + 1, .ite e a b, h => by unfold Stm.Ok at h; unfold stF; exact ⟨.ofOk hs h.1, blF.ofOk hs h.2.1, blF.ofOk hs h.2.2.1, by have := h.2.2.2.1; omega, by have := h.2.2.2.2; omega⟩
  | d, .bad, h => by cases d <;> (unfold stF; trivial)
  | 0, .after _, h => by unfold Stm.Ok at h; exact h.elim
  | d + 1, .after a, h => by unfold Stm.Ok at h; unfold stF; exact ⟨blF.ofOk hs h.1, by have := h.2; omega⟩
theorem blF.ofOk {s : Sc} (hs : ScN s) {k : Nat} : ∀ {d : Nat} {b : Blk}, b.Ok s k d → blF k d b
  | d, .nil, h => by unfold blF; trivial
  | d, .cons x r, h => by unfold Blk.Ok at h; unfold blF; exact ⟨stF.ofOk hs h.1, blF.ofOk hs h.2⟩
end
theorem exF.mono : ∀ {k j : Nat} {e : Ex}, exF k e → k ≤ j → exF j e
  | 0, _, _, h, _ => h.elim
  | _ + 1, 0, _, _, hj => absurd hj (by omega)
  | _ + 1, _ + 1, .num _, h, _ => h
  | _ + 1, _ + 1, .loc _, h, _ => h
  | _ + 1, _ + 1, .var _, h, _ => h
  | k + 1, j + 1, .has _ _, h, hj => ⟨h.1, h.2.mono (by omega)⟩
  | k + 1, j + 1, .cell _ _, h, hj => ⟨h.1, h.2.mono (by omega)⟩
  | k + 1, j + 1, .op _ _ _, h, hj => ⟨h.1, h.2.1.mono (by omega), h.2.2.mono (by omega)⟩
mutual
theorem stF.mono {k j : Nat} (hk : k ≤ j) : ∀ {d e : Nat} {x : Stm}, stF k d x → d ≤ e → stF j e x
  | d, e, .set _ _, h, _ => by unfold stF at h ⊢; exact ⟨h.1, h.2.mono hk⟩
  | d, e, .lt _ _, h, _ => by unfold stF at h ⊢; exact ⟨h.1, h.2.mono hk⟩
  | d, e, .draw _ _, h, _ => by unfold stF at h ⊢; exact h
  | d, e, .put _ _ _, h, _ => by unfold stF at h ⊢; exact ⟨h.1, h.2.1.mono hk, h.2.2.mono hk⟩
  | d, e, .lot _ _ _, h, _ => by unfold stF at h ⊢; exact ⟨h.1, h.2.1, h.2.2.mono hk⟩
  | d, e, .ask _ _ _, h, _ => by unfold stF at h ⊢; exact ⟨h.1, h.2.1, h.2.2.mono hk⟩
  | d, e, .bad, _, _ => by cases e <;> (unfold stF; trivial)
  | 0, e, .ite _ _ _, h, _ => by unfold stF at h; exact h.elim
  | d + 1, 0, .ite _ _ _, h, he => absurd he (by omega)
  | d + 1, e + 1, .ite _ _ _, h, he => by unfold stF at h ⊢; exact ⟨h.1.mono hk, h.2.1.mono hk (by omega), h.2.2.1.mono hk (by omega), by have := h.2.2.2.1; omega, by have := h.2.2.2.2; omega⟩
  | 0, e, .after _, h, _ => by unfold stF at h; exact h.elim
  | d + 1, 0, .after _, h, he => absurd he (by omega)
  | d + 1, e + 1, .after _, h, he => by unfold stF at h ⊢; exact ⟨h.1.mono hk (by omega), by have := h.2; omega⟩
theorem blF.mono {k j : Nat} (hk : k ≤ j) : ∀ {d e : Nat} {b : Blk}, blF k d b → d ≤ e → blF j e b
  | d, e, .nil, h, _ => by unfold blF; trivial
  | d, e, .cons x r, h, he => by unfold blF at h ⊢; exact ⟨h.1.mono hk he, h.2.mono hk he⟩
end
theorem op_str {o : Str} (h : o ∈ ops) : strOk o = true ∧ o.length ≤ 3 := by
  have : ∀ o ∈ ops, (strOk o && decide (o.length ≤ 3)) = true := by decide +kernel
  have := Bool.and_eq_true_iff.mp (this o h)
  exact ⟨this.1, of_decide_eq_true this.2⟩
theorem strOk_lit : strOk "number" = true ∧ strOk "local" = true ∧ strOk "variable" = true ∧ strOk "has" = true ∧ strOk "cell" = true ∧ strOk "set" = true ∧ strOk "let" = true ∧ strOk "draw" = true ∧ strOk "put" = true ∧ strOk "lot" = true ∧ strOk "ask" = true ∧ strOk "if" = true ∧ strOk "bad" = true ∧ strOk "after" = true := by decide +kernel
theorem exF.fit : ∀ {k : Nat} {e : Ex}, exF k e → Fit k e.d
  | 0, _, h => h.elim
  | k + 1, .num n, h => (FitAll.cons (.str strOk_lit.1) (.cons .int .nil)).tup
  | k + 1, .loc x, h => (FitAll.cons (.str strOk_lit.2.1) (.cons (.str (nm_ok h)) .nil)).tup
  | k + 1, .var x, h => (FitAll.cons (.str strOk_lit.2.2.1) (.cons (.str (nm_ok h)) .nil)).tup
  | k + 1, .has t e, h => (FitAll.cons (.str strOk_lit.2.2.2.1) (.cons (.str (nm_ok h.1)) (.cons h.2.fit .nil))).tup
  | k + 1, .cell t e, h => (FitAll.cons (.str strOk_lit.2.2.2.2.1) (.cons (.str (nm_ok h.1)) (.cons h.2.fit .nil))).tup
  | k + 1, .op o a b, h => (FitAll.cons (.str (op_str h.1).1) (.cons h.2.1.fit (.cons h.2.2.fit .nil))).tup
mutual
theorem stF.fit {k : Nat} : ∀ {d : Nat} {x : Stm}, stF k d x → Fit (k + 2 * d + 1) x.d
  | d, .set x e, h => by unfold stF at h; unfold Stm.d; exact (FitAll.cons (.str strOk_lit.2.2.2.2.2.1) (.cons (.str (nm_ok h.1)) (.cons (h.2.fit.mono (by omega)) .nil))).tup
  | d, .lt x e, h => by unfold stF at h; unfold Stm.d; exact (FitAll.cons (.str strOk_lit.2.2.2.2.2.2.1) (.cons (.str (nm_ok h.1)) (.cons (h.2.fit.mono (by omega)) .nil))).tup
  | d, .draw l n, h => by unfold stF at h; unfold Stm.d; exact (FitAll.cons (.str strOk_lit.2.2.2.2.2.2.2.1) (.cons (.str (nm_ok h.1)) (.cons .int .nil))).tup
  | d, .put t e f, h => by unfold stF at h; unfold Stm.d; exact (FitAll.cons (.str strOk_lit.2.2.2.2.2.2.2.2.1) (.cons (.str (nm_ok h.1)) (.cons (h.2.1.fit.mono (by omega)) (.cons (h.2.2.fit.mono (by omega)) .nil)))).tup
  | d, .lot l o e, h => by unfold stF at h; unfold Stm.d; exact (FitAll.cons (.str strOk_lit.2.2.2.2.2.2.2.2.2.1) (.cons (.str (nm_ok h.1)) (.cons (.str (nm_ok h.2.1)) (.cons (h.2.2.fit.mono (by omega)) .nil)))).tup
  | d, .ask l p e, h => by unfold stF at h; unfold Stm.d; exact (FitAll.cons (.str strOk_lit.2.2.2.2.2.2.2.2.2.2.1) (.cons (.str (nm_ok h.1)) (.cons (.str (nm_ok h.2.1)) (.cons (h.2.2.fit.mono (by omega)) .nil)))).tup
  | 0, .ite _ _ _, h => by unfold stF at h; exact h.elim
  | d + 1, .ite e a b, h => by unfold stF at h; unfold Stm.d; exact (FitAll.cons (.str strOk_lit.2.2.2.2.2.2.2.2.2.2.2.1) (.cons (h.1.fit.mono (by omega)) (.cons ((blF.fit h.2.1).tup.mono (by omega)) (.cons ((blF.fit h.2.2.1).tup.mono (by omega)) .nil)))).tup
  | d, .bad, h => by unfold Stm.d; exact (FitAll.cons (.str strOk_lit.2.2.2.2.2.2.2.2.2.2.2.2.1) .nil).tup
  | 0, .after _, h => by unfold stF at h; exact h.elim
  | d + 1, .after a, h => by unfold stF at h; unfold Stm.d; exact (FitAll.cons (.str strOk_lit.2.2.2.2.2.2.2.2.2.2.2.2.2) (.cons ((blF.fit h.1).tup.mono (by omega)) .nil)).tup
theorem blF.fit {k : Nat} : ∀ {d : Nat} {b : Blk}, blF k d b → FitAll (k + 2 * d + 1) b.ds
  | d, .nil, h => by unfold Blk.ds; exact .nil
  | d, .cons x r, h => by unfold blF at h; unfold Blk.ds; exact .cons (stF.fit h.1) (blF.fit h.2)
end
/-! ### no two alike -/
theorem Ex.inj : ∀ a b : Ex, a.d = b.d → a = b
  | .num n, b, h => by cases b <;> simp [Ex.d] at h <;> simp [h]
  | .loc n, b, h => by cases b <;> simp [Ex.d] at h <;> first | (simp [h]; done) | exact absurd h.1 (by decide +kernel)
  | .var n, b, h => by cases b <;> simp [Ex.d] at h <;> first | (simp [h]; done) | exact absurd h.1 (by decide +kernel)
  | .has t e, b, h => by
    cases b with
    | has u f => simp [Ex.d] at h; rw [h.1, Ex.inj e f h.2]
    | cell u f => simp [Ex.d] at h; exact absurd h.1 (by decide +kernel)
    | op o u f => exfalso; cases u <;> simp [Ex.d] at h
    | _ => simp [Ex.d] at h
  | .cell t e, b, h => by
    cases b with
    | cell u f => simp [Ex.d] at h; rw [h.1, Ex.inj e f h.2]
    | has u f => simp [Ex.d] at h; exact absurd h.1 (by decide +kernel)
    | op o u f => exfalso; cases u <;> simp [Ex.d] at h
    | _ => simp [Ex.d] at h
  | .op o a c, b, h => by
    cases b with
    | op p u f => simp [Ex.d] at h; rw [h.1, Ex.inj a u h.2.1, Ex.inj c f h.2.2]
    | has u f => exfalso; cases a <;> simp [Ex.d] at h
    | cell u f => exfalso; cases a <;> simp [Ex.d] at h
    | _ => simp [Ex.d] at h
def Stm.kind : Stm → Str
  | .set _ _ => "set" | .lt _ _ => "let" | .draw _ _ => "draw" | .put _ _ _ => "put" | .lot _ _ _ => "lot" | .ask _ _ _ => "ask" | .ite _ _ _ => "if" | .bad => "bad" | .after _ => "after"
/-- what stands behind the kind -/
def Stm.args : Stm → List PyData
  | .set x e => [.str x, e.d] | .lt l e => [.str l, e.d] | .draw l n => [.str l, .int n] | .put t e f => [.str t, e.d, f.d] | .lot l o e => [.str l, .str o, e.d] | .ask l p e => [.str l, .str p, e.d] | .ite e a b => [e.d, a.d, b.d] | .bad => [] | .after a => [a.d]
theorem Stm.d_kind (x : Stm) : x.d = .tuple (.str x.kind :: x.args) := by cases x <;> unfold Stm.d <;> rfl
theorem kinds_ne : ∀ x y : Stm, x.kind = y.kind → (match x, y with
    | .set _ _, .set _ _ => True | .lt _ _, .lt _ _ => True | .draw _ _, .draw _ _ => True | .put _ _ _, .put _ _ _ => True | .lot _ _ _, .lot _ _ _ => True | .ask _ _ _, .ask _ _ _ => True | .ite _ _ _, .ite _ _ _ => True | .bad, .bad => True | .after _, .after _ => True | _, _ => False) := by
  intro x y h
  cases x <;> cases y <;> first | trivial | (dsimp only [Stm.kind] at h; exact absurd h (by decide +kernel))
mutual
theorem Stm.inj : ∀ a b : Stm, a.d = b.d → a = b
  | .set x e, b, h => by
    rw [Stm.d_kind, Stm.d_kind] at h
    injection h with h; injection h with h1 h2; injection h1 with h1
    have := kinds_ne _ _ h1
    cases b <;> first | exact this.elim | skip
    unfold Stm.args at h2; simp at h2; rw [h2.1, Ex.inj _ _ h2.2]
  | .lt x e, b, h => by
    rw [Stm.d_kind, Stm.d_kind] at h
    injection h with h; injection h with h1 h2; injection h1 with h1
    have := kinds_ne _ _ h1
    cases b <;> first | exact this.elim | skip
    unfold Stm.args at h2; simp at h2; rw [h2.1, Ex.inj _ _ h2.2]
  | .draw x e, b, h => by
    rw [Stm.d_kind, Stm.d_kind] at h
    injection h with h; injection h with h1 h2; injection h1 with h1
    have := kinds_ne _ _ h1
    cases b <;> first | exact this.elim | skip
    unfold Stm.args at h2; simp at h2; rw [h2.1, h2.2]
  | .put x e f, b, h => by
    rw [Stm.d_kind, Stm.d_kind] at h
    injection h with h; injection h with h1 h2; injection h1 with h1
    have := kinds_ne _ _ h1
    cases b <;> first | exact this.elim | skip
    unfold Stm.args at h2; simp at h2; rw [h2.1, Ex.inj _ _ h2.2.1, Ex.inj _ _ h2.2.2]
  | .lot x o e, b, h => by
    rw [Stm.d_kind, Stm.d_kind] at h
    injection h with h; injection h with h1 h2; injection h1 with h1
    have := kinds_ne _ _ h1
    cases b <;> first | exact this.elim | skip
    unfold Stm.args at h2; simp at h2; rw [h2.1, h2.2.1, Ex.inj _ _ h2.2.2]
  | .ask x o e, b, h => by
    rw [Stm.d_kind, Stm.d_kind] at h
    injection h with h; injection h with h1 h2; injection h1 with h1
    have := kinds_ne _ _ h1
    cases b <;> first | exact this.elim | skip
    unfold Stm.args at h2; simp at h2; rw [h2.1, h2.2.1, Ex.inj _ _ h2.2.2]
  | .ite e p q, b, h => by
    rw [Stm.d_kind, Stm.d_kind] at h
    injection h with h; injection h with h1 h2; injection h1 with h1
    have := kinds_ne _ _ h1
    cases b <;> first | exact this.elim | skip
    unfold Stm.args Blk.d at h2; simp at h2; rw [Ex.inj _ _ h2.1, Blk.inj _ _ h2.2.1, Blk.inj _ _ h2.2.2]
  | .bad, b, h => by
    rw [Stm.d_kind, Stm.d_kind] at h
    injection h with h; injection h with h1 h2; injection h1 with h1
    have := kinds_ne _ _ h1
    cases b <;> first | exact this.elim | rfl
  | .after p, b, h => by
    rw [Stm.d_kind, Stm.d_kind] at h
    injection h with h; injection h with h1 h2; injection h1 with h1
    have := kinds_ne _ _ h1
    cases b <;> first | exact this.elim | skip
    unfold Stm.args Blk.d at h2; simp at h2; rw [Blk.inj _ _ h2]
theorem Blk.inj : ∀ a b : Blk, a.ds = b.ds → a = b
  | .nil, .nil, _ => rfl
  | .nil, .cons x r, h => by unfold Blk.ds at h; cases h
  | .cons x r, .nil, h => by unfold Blk.ds at h; cases h
  | .cons x r, .cons y s, h => by
    unfold Blk.ds at h
    injection h with h1 h2
    rw [Stm.inj x y h1, Blk.inj r s h2]
end
/-! ### a block as a list -/
def Blk.l : Blk → List Stm
  | .nil => []
  | .cons s r => s :: r.l
theorem Blk.ds_l : ∀ b : Blk, b.ds = b.l.map Stm.d
  | .nil => by unfold Blk.ds Blk.l; rfl
  | .cons s r => by unfold Blk.ds Blk.l; rw [Blk.ds_l r]; rfl
theorem Blk.of_l : ∀ b : Blk, Blk.of b.l = b
  | .nil => rfl
  | .cons s r => by unfold Blk.l Blk.of; rw [Blk.of_l r]
theorem Blk.l_of : ∀ l : List Stm, (Blk.of l).l = l
  | [] => rfl
  | s :: r => by unfold Blk.of Blk.l; rw [Blk.l_of r]
theorem Blk.ds_of (l : List Stm) : (Blk.of l).ds = l.map Stm.d := by rw [Blk.ds_l, Blk.l_of]
theorem blF.l {k d : Nat} : ∀ {b : Blk}, blF k d b → ∀ x ∈ b.l, stF k d x
  | .nil, _, x, h => by unfold Blk.l at h; cases h
  | .cons s r, hb, x, h => by
    unfold blF at hb
    unfold Blk.l at h
    rcases List.mem_cons.mp h with rfl | h
    · exact hb.1
    · exact blF.l hb.2 x h
theorem blF.of {k d : Nat} : ∀ {l : List Stm}, (∀ x ∈ l, stF k d x) → blF k d (Blk.of l)
  | [], _ => by unfold Blk.of blF; trivial
  | s :: r, h => by
    unfold Blk.of blF
    exact ⟨h s (List.mem_cons_self ..), blF.of fun x hx => h x (List.mem_cons_of_mem _ hx)⟩
theorem Blk.len_l : ∀ b : Blk, b.l.length = b.len
  | .nil => rfl
  | .cons s r => by unfold Blk.l Blk.len; rw [List.length_cons, Blk.len_l r]
/-! ### procedures, games -/
structure PrF_ (k d : Nat) (p : Pr) : Prop where
  name : nmB p.name = true
  locs : ∀ x ∈ p.locs, nmB x = true
  block : blF k d p.block
  res : exF k p.res
structure GaF (k d : Nat) (g : Ga) : Prop where
  vars : ∀ t ∈ g.vars, nmB t.1 = true
  tabs : ∀ t ∈ g.tabs, nmB t.1 = true
  lots : ∀ t ∈ g.lots, nmB t.1 = true
  procs : ∀ p ∈ g.procs, PrF_ k d p
theorem fit_strs {n : Nat} {xs : List Str} (h : ∀ x ∈ xs, nmB x = true) : Fit (n + 1) (strD xs) := by
  refine FitAll.tup (FitAll.of fun d hd => ?_)
  obtain ⟨x, hx, rfl⟩ := List.mem_map.mp hd
  exact .str (nm_ok (h x hx))
theorem PrF_.fit {k d : Nat} {p : Pr} (h : PrF_ k d p) : Fit (k + 2 * d + 3) p.d := by
  unfold Pr.d
  refine (FitAll.cons (.str (nm_ok h.name)) (.cons .int (.cons .int (.cons ((fit_strs (n := 0) h.locs).mono (by omega)) (.cons ((blF.fit h.block).tup.mono (by omega)) (.cons (h.res.fit.mono (by omega)) .nil)))))).tup
theorem fit_trips {n : Nat} {ts : List (Str × Int × Int)} (h : ∀ t ∈ ts, nmB t.1 = true) : Fit (n + 2) (trips ts) := by
  refine FitAll.tup (FitAll.of fun d hd => ?_)
  obtain ⟨t, ht, rfl⟩ := List.mem_map.mp hd
  exact (FitAll.cons (.str (nm_ok (h t ht))) (.cons .int (.cons .int .nil))).tup
theorem fit_procs {k d : Nat} {ps : List Pr} (h : ∀ p ∈ ps, PrF_ k d p) : Fit (k + 2 * d + 4) (.tuple (ps.map Pr.d)) := by
  refine FitAll.tup (FitAll.of fun d hd => ?_)
  obtain ⟨t, ht, rfl⟩ := List.mem_map.mp hd
  exact (h t ht).fit
theorem GaF.fit {k d : Nat} {g : Ga} (h : GaF k d g) : Fit (k + 2 * d + 5) g.d := by
  unfold Ga.d
  exact (FitAll.cons ((fit_trips (n := 0) h.vars).mono (by omega)) (.cons ((fit_trips (n := 0) h.tabs).mono (by omega)) (.cons ((fit_trips (n := 0) h.lots).mono (by omega)) (.cons (fit_procs h.procs) .nil)))).tup
theorem all_nm {l : List Str} (h : l.all nmB = true) : ∀ x ∈ l, nmB x = true := List.all_eq_true.mp h
theorem GaF.ofOk {g : Ga} (h : GaOk g) : GaF 3 2 g := by
  have v : ∀ x ∈ g.vars.map (·.1), nmB x = true := fun x hx => by
    rcases h.vars with e | e | e <;> rw [e] at hx <;> exact all_nm (by decide +kernel) x hx
  have t : ∀ x ∈ g.tabs.map (·.1), nmB x = true := fun x hx => by
    rcases h.tabs with e | e | e <;> rw [e] at hx <;> exact all_nm (by decide +kernel) x hx
  have o : ∀ x ∈ g.lots.map (·.1), nmB x = true := fun x hx => by
    rcases h.lots with e | e | e <;> rw [e] at hx <;> exact all_nm (by decide +kernel) x hx
  have p : ∀ x ∈ g.procs.map (·.name), nmB x = true := fun x hx => by
    rcases h.procs with e | e <;> rw [e] at hx <;> exact all_nm (by decide +kernel) x hx
  refine ⟨fun x hx => v _ (List.mem_map.mpr ⟨x, hx, rfl⟩), fun x hx => t _ (List.mem_map.mpr ⟨x, hx, rfl⟩), fun x hx => o _ (List.mem_map.mpr ⟨x, hx, rfl⟩), fun q hq => ?_⟩
  have P := h.proc q hq
  have l : ∀ x ∈ q.locs, nmB x = true := fun x hx => by
    rcases P.locs with e | e <;> rw [e] at hx <;> exact all_nm (by decide +kernel) x hx
  have sc : ScN (g.sc q.locs []) := ⟨l, v, t, o, fun x h => nomatch h⟩
  exact ⟨p _ (List.mem_map.mpr ⟨q, hq, rfl⟩), l, .ofOk sc P.block, .ofOk sc P.res⟩
end Gm
set_option Elab.async false
set_option linter.all false
set_option maxRecDepth 100000
set_option maxHeartbeats 2000000
/-! Words of a text: names, numbers; an object that takes them one after the other. -/
namespace Pz
open PySem L2 Gm
def lets : Str := "abcdefghijklmnopqrstuvwxyz"
def digs : Str := "0123456789"
def letB (c : Nat) : Bool := decide (c ∈ lets.cps.toList)
def digB (c : Nat) : Bool := decide (c ∈ digs.cps.toList)
def keys : List Str := ["var", "table", "lots", "proc", "local", "set", "let", "draw", "put", "lot", "ask", "if", "else", "end", "bad", "after", "answer", "has", "cell", "mod"]
def signs (w : Str) : List Nat := w.cps.toList
def isName (w : Str) : Bool := decide (1 ≤ w.length ∧ w.length ≤ 12) && !decide (w ∈ keys) && (match signs w with | [] => false | c :: _ => letB c) && (signs w).all fun c => letB c || digB c
def numW (w : Str) : Nat := NumText.digitsVal (signs w)
def isNum (w : Str) : Bool := decide (1 ≤ w.length ∧ w.length ≤ 5) && (signs w).all digB && (match signs w with | [] => false | c :: _ => if c = 48 then decide (w = "0") else decide (numW w ≤ 65535))
theorem len_signs (w : Str) : (signs w).length = w.length := Array.length_toList
theorem digB_iff {c : Nat} : digB c = true ↔ 48 ≤ c ∧ c ≤ 57 := by
  unfold digB
  rw [decide_eq_true_iff, show digs.cps.toList = [48, 49, 50, 51, 52, 53, 54, 55, 56, 57] from by decide +kernel]
  simp only [List.mem_cons, List.not_mem_nil, or_false]
  omega
theorem num_text {w : Str} (h : (signs w).all digB = true) (h1 : 1 ≤ w.length) (h2 : w.length ≤ 5) : intText? w = some ((numW w : Nat) : Int) := by
  refine _root_.PySem.intText_digits (fun c hc => ?_) (fun z => ?_) (by omega)
  · exact digB_iff.mp (List.all_eq_true.mp h c hc)
  · have := len_signs w
    unfold signs at this
    rw [z] at this
    simp at this
    omega
theorem flat_strs : ∀ xs : List Str, (xs.map V.str).all flatV = true
  | [] => rfl
  | x :: xs => by rw [List.map_cons, List.all_cons, flat_strs xs]; rfl
theorem inV_strs (x : Str) : ∀ xs : List Str, inV (.str x) (xs.map V.str) = decide (x ∈ xs)
  | [] => rfl
  | y :: xs => by
    have ih := inV_strs x xs
    unfold inV at ih ⊢
    rw [List.map_cons, List.any_cons, ih]
    by_cases h : y = x
    · subst h
      rw [show eqV (.str y) (.str y) = true from by simp [eqV], Bool.true_or]
      exact (decide_eq_true List.mem_cons_self).symm
    · rw [show eqV (.str y) (.str x) = false from by simp [eqV, h], Bool.false_or]
      refine decide_eq_decide.mpr ⟨List.mem_cons_of_mem _, fun m => ?_⟩
      rcases List.mem_cons.mp m with e | e
      · exact absurd e.symm h
      · exact e
/-- the word at a place, the empty word behind the last one -/
def wd (ws : List Str) (i : Nat) : Str := ws.getD i Str.empty
/-- all but the object at p stands -/
def But (p : Addr) (H H' : Hp) : Prop := ∀ b o, H b = some o → b ≠ p → H' b = some o
theorem But.refl (p : Addr) (H : Hp) : But p H H := fun _ _ e _ => e
theorem But.trans {p : Addr} {H H1 H2 : Hp} (a : But p H H1) (b : But p H1 H2) : But p H H2 := fun c o e n => b c o (a c o e n) n
theorem But.same {p : Addr} {H H' : Hp} (s : Same H H') : But p H H' := fun b o e _ => s b o e
theorem But.upd {p : Addr} {H : Hp} {o : HO} : But p H (upd H p o) := fun b u e n => by rw [upd_ne n]; exact e
/-- an object that takes words: ws in the list at l, the next one i -/
structure WAt (C : Addr) (H : Hp) (p l : Addr) (ws : List Str) (i : Nat) : Prop where
  ob : ∃ dx fs, H p = some (.ins C dx fs) ∧ fs.lookup ("words" : Str) = some (.ref l) ∧ fs.lookup ("at" : Str) = some (.int i) ∧ (∀ m : Str, m ≠ "words" → m ≠ "at" → fs.lookup m = none) ∧ fs.length < 900
  li : H l = some (.lst (ws.map V.str))
  le : i ≤ ws.length
  sz : ws.length < 1000000
  wl : ∀ w ∈ ws, w.length ≤ 1000000
section
variable {C : Addr} {H H' : Hp} {p l : Addr} {ws : List Str} {i : Nat}
theorem WAt.ne (h : WAt C H p l ws i) : l ≠ p := fun e => by
  obtain ⟨dx, fs, e1, _⟩ := h.ob
  have e2 := h.li
  rw [e, e1] at e2
  cases e2
theorem WAt.same (h : WAt C H p l ws i) (s : Same H H') : WAt C H' p l ws i :=
  let ⟨dx, fs, e1, e2⟩ := h.ob
  ⟨⟨dx, fs, s _ _ e1, e2⟩, s _ _ h.li, h.le, h.sz, h.wl⟩
theorem But.tups {H H' : Hp} {p : Addr} {C : Addr} {dx : Addr} {fs : List (Str × V)} (b : But p H H') (h : H p = some (.ins C dx fs)) : Tups H H' := fun c o e k => b c o e fun z => by
  rw [z, h] at e
  cases e
  rcases k with ⟨_, z⟩ | ⟨_, _, z⟩ <;> cases z
theorem WAt.tups (h : WAt C H p l ws i) (b : But p H H') : Tups H H' :=
  let ⟨dx, fs, e1, _⟩ := h.ob
  b.tups e1
theorem wd_len (h : WAt C H p l ws i) : (wd ws i).length ≤ 1000000 := by
  unfold wd
  rw [List.getD_eq_getElem?_getD]
  cases e : ws[i]? with
  | none => exact Nat.zero_le _
  | some w => exact h.wl w (List.mem_of_getElem? e)
theorem putF_len {f : Str} {v x : V} : ∀ {fs : List (Str × V)}, fs.lookup f = some x → (putF f v fs).length = fs.length
  | [], h => by cases h
  | (g, y) :: r, h => by
    by_cases e : g = f
    · rw [putF, if_pos e] <;> rfl
    · have e2 : (f == g) = false := by
        cases z : f == g with
        | false => rfl
        | true => exact absurd (eq_of_beq z).symm e
      rw [putF, if_neg e, List.length_cons, List.length_cons, putF_len (fs := r) (by simpa [List.lookup, e2] using h)]
theorem WAt.lt_of (h : WAt C H p l ws i) (n : wd ws i ≠ Str.empty) : i < ws.length := by
  refine Nat.lt_of_le_of_ne h.le fun e => n ?_
  unfold wd
  rw [e, List.getD_eq_getElem?_getD, List.getElem?_eq_none (Nat.le_refl _)]
  rfl
theorem isNum_text {w : Str} (h : isNum w = true) : intText? w = some ((numW w : Nat) : Int) ∧ w.length ≤ 640 := by
  unfold isNum at h
  rw [Bool.and_eq_true, Bool.and_eq_true] at h
  have l := of_decide_eq_true h.1.1
  exact ⟨num_text h.1.2 l.1 l.2, by omega⟩
/-- the words that v offers -/
def Amg (K : PySem.W.Frag) (H : Hp) (v : V) (cs : List Str) : Prop :=
  ∃ a, v = .ref a ∧ (SqL K H a (cs.map V.str) ∨ SqT K H a (cs.map V.str) ∨ ∃ kvs, H a = some (.dK kvs) ∧ ∀ x : Str, (valV kvs (.inr x)).isSome = decide (x ∈ cs))
def rNotU (K : PySem.W.Frag) : R2 := fun x y H Q => rIn K true x y H Q ∨ ∃ a ov, y = .ref a ∧ DGet H a x ov ∧ Q (.bl (!ov.isSome)) H
theorem op_notU {X : Cx} (hu : X.A.units + 1 < cLine) : OpR X (compareOp .NotIn) (rNotU X.K) := by
  intro pins s σ H x y v u Q I rx ry h
  rcases h with h | ⟨a, ov, rfl, g, q⟩
  · exact op_notIn_seq pins s σ H x y v u Q I rx ry h
  · obtain rfl : u = Value.ref a := ry
    exact d_notIn hu I g rx fun s3 I3 => ⟨.bl (!ov.isSome), H, I3, rfl, q⟩
theorem Amg.notU {K : PySem.W.Frag} {H : Hp} {v : V} {cs : List Str} {x : Str} {Q : VK} (h : Amg K H v cs) (q : Q (.bl (!decide (x ∈ cs))) H) : rNotU K (.str x) v H Q := by
  obtain ⟨a, rfl, h | h | ⟨kvs, h, k⟩⟩ := h
  · refine .inl ⟨a, _, rfl, .inl h, rfl, flat_strs _, ?_⟩
    rw [if_pos rfl, inV_strs]
    exact q
  · refine .inl ⟨a, _, rfl, .inr h, rfl, flat_strs _, ?_⟩
    rw [if_pos rfl, inV_strs]
    exact q
  · refine .inr ⟨a, _, rfl, DGet.k (k := .inr x) h, ?_⟩
    rw [k x]
    exact q
/-- a text refused at the word i -/
def Ref (p B : Addr) (H : Hp) (i : Nat) (E : XK) : Prop := ∀ d H', But p H H' → H' d = some (.xd [("at", .int i)]) → E (.ref B) (some d) H'
theorem Ref.later {p B : Addr} {H H1 : Hp} {i : Nat} {E : XK} (h : Ref p B H i E) (b : But p H H1) : Ref p B H1 i E := fun d H' c e => h d H' (b.trans c) e
theorem WAt.nomt {m : Str} (h : WAt C H p l ws i) (h1 : m ≠ "words" := by decide) (h2 : m ≠ "at" := by decide) : ∃ dx fs, H p = some (.ins C dx fs) ∧ fs.lookup m = none :=
  let ⟨dx, fs, e1, _, _, e4, _⟩ := h.ob
  ⟨dx, fs, e1, e4 m h1 h2⟩
end
/-! ### what the methods promise -/
section
variable (C B : Addr)
def spEnded : Sp := fun vs H Q _ => ∃ (p l : Addr) (ws : List Str) (i : Nat), vs = [.ref p] ∧ WAt C H p l ws i ∧ Q (.bl (decide (i = ws.length))) H
def spAhead : Sp := fun vs H Q _ => ∃ (p l : Addr) (ws : List Str) (i : Nat), vs = [.ref p] ∧ WAt C H p l ws i ∧ Q (.str (wd ws i)) H
def toWords (x : Str) : List Str := if x.length = 0 then [] else Txt.split x " "
def spWords : Sp := fun vs H Q _ => ∃ (p dx : Addr) (x : Str), vs = [.ref p, .str x] ∧ H p = some (.ins C dx []) ∧ x.length ≤ 900000 ∧ (toWords x).length < 1000000 ∧ (∀ w ∈ toWords x, w.length ≤ 1000000) ∧
  ∀ l H', But p H H' → WAt C H' p l (toWords x) 0 → Q .non H'
def spRefuse : Sp := fun vs H _ E => ∃ (p l : Addr) (ws : List Str) (i : Nat), vs = [.ref p] ∧ WAt C H p l ws i ∧ Ref p B H i E
def spTake : Sp := fun vs H Q _ => ∃ (p l : Addr) (ws : List Str) (i : Nat), vs = [.ref p] ∧ WAt C H p l ws i ∧ i < ws.length ∧ ∀ H', But p H H' → WAt C H' p l ws (i + 1) → Q (.str (wd ws i)) H'
/-- one word is taken, or refused -/
def Tk1 (p l : Addr) (ws : List Str) (i : Nat) (H : Hp) (Q : V → Hp → Prop) (E : XK) (c : Bool) (y : V) : Prop := if c = true then ∀ H', But p H H' → WAt C H' p l ws (i + 1) → Q y H' else Ref p B H i E
def spOneOf (K : PySem.W.Frag) : Sp := fun vs H Q E => ∃ (p l : Addr) (ws : List Str) (i : Nat) (v : V) (cs : List Str), vs = [.ref p, v] ∧ WAt C H p l ws i ∧ Amg K H v cs ∧ Str.empty ∉ cs ∧ Tk1 C B p l ws i H Q E (decide (wd ws i ∈ cs)) (.str (wd ws i))
def spName (K : PySem.W.Frag) : Sp := fun vs H Q E => ∃ (p l : Addr) (ws : List Str) (i : Nat) (a : Addr) (cs : List Str), vs = [.ref p, .ref a] ∧ WAt C H p l ws i ∧ (SqL K H a (cs.map V.str) ∨ SqT K H a (cs.map V.str)) ∧ Tk1 C B p l ws i H Q E (isName (wd ws i) && !decide (wd ws i ∈ cs)) (.str (wd ws i))
def spNumber : Sp := fun vs H Q E => ∃ (p l : Addr) (ws : List Str) (i : Nat), ∃ lo hi : Int, vs = [.ref p, .int lo, .int hi] ∧ WAt C H p l ws i ∧ Tk1 C B p l ws i H Q E (isNum (wd ws i) && decide (lo ≤ (numW (wd ws i) : Nat) ∧ ((numW (wd ws i) : Nat) : Int) ≤ hi)) (.int (numW (wd ws i) : Nat))
def spFinish : Sp := fun vs H Q E => ∃ (p l : Addr) (ws : List Str) (i : Nat), vs = [.ref p] ∧ WAt C H p l ws i ∧ if i = ws.length then Q .non H else Ref p B H i E
end
/-! ### expressions: what is read -/
def looks : List Str := ["has", "cell"]
def lookEx (x t : Str) (e : Ex) : Ex := if x = "has" then .has t e else .cell t e
def pAtom (ws : List Str) (s : Sc) (i : Nat) : Except Nat (Ex × Nat) :=
  if isNum (wd ws i) = true then .ok (.num (numW (wd ws i) : Nat), i + 1)
  else if wd ws i ∈ s.vars then .ok (.var (wd ws i), i + 1)
  else if wd ws i ∈ s.locs then .ok (.loc (wd ws i), i + 1)
  else .error i
def pExpr (ws : List Str) (s : Sc) : Nat → Nat → Except Nat (Ex × Nat)
  | 0, i => pAtom ws s i
  | k + 1, i =>
    if wd ws i ∈ ops then
      match pExpr ws s k (i + 1) with
      | .error j => .error j
      | .ok (a, j) => match pExpr ws s k j with
        | .error m => .error m
        | .ok (b, m) => .ok (.op (wd ws i) a b, m)
    else if wd ws i ∈ looks ∧ s.tabs ≠ [] then
      if wd ws (i + 1) ∈ s.tabs then
        match pExpr ws s k (i + 2) with
        | .error j => .error j
        | .ok (e, j) => .ok (lookEx (wd ws i) (wd ws (i + 1)) e, j)
      else .error (i + 1)
    else pAtom ws s i
/-- the data of the words that are an expression by themselves -/
def MeanAt (K : PySem.W.Frag) (H : Hp) (m : Addr) (s : Sc) : Prop :=
  ∃ kvs, H m = some (.dK kvs) ∧ ∀ x : Str, (x ∈ s.vars → ∃ v, valV kvs (.inr x) = some v ∧ Dp K H v (Ex.var x).d) ∧ (x ∉ s.vars → x ∈ s.locs → ∃ v, valV kvs (.inr x) = some v ∧ Dp K H v (Ex.loc x).d) ∧
    (x ∉ s.vars → x ∉ s.locs → valV kvs (.inr x) = none)
section
variable {K : PySem.W.Frag} {C : Addr} {H H' : Hp} {p l m : Addr} {ws : List Str} {i : Nat} {s : Sc}
theorem WAt.other (h : WAt C H p l ws i) {a : Addr} {o : HO} (e : H a = some o) (n : ∀ C dx fs, o ≠ .ins C dx fs) : a ≠ p := fun z => by
  obtain ⟨dx, fs, e1, _⟩ := h.ob
  rw [z, e1] at e
  exact n _ _ _ (Option.some.inj e).symm
theorem WAt.sqL (h : WAt C H p l ws i) (b : But p H H') {a : Addr} {xs : List V} (e : SqL K H a xs) : SqL K H' a xs := by
  rcases e with (e | ⟨o, e⟩) | e
  · exact .inl (.inl (b _ _ e (h.other e fun _ _ _ z => by cases z)))
  · exact .inl (.inr ⟨o, b _ _ e (h.other e fun _ _ _ z => by cases z)⟩)
  · exact .inr e
theorem WAt.sqT (h : WAt C H p l ws i) (b : But p H H') {a : Addr} {xs : List V} (e : SqT K H a xs) : SqT K H' a xs := sqT_tups (h.tups b) e
theorem WAt.dp (h : WAt C H p l ws i) (b : But p H H') {v : V} (e : Ex) (d : Dp K H v e.d) : Dp K H' v e.d := dp_tups (h.tups b) _ _ (Ex.nol e) d
theorem WAt.mean (h : WAt C H p l ws i) (b : But p H H') (M : MeanAt K H m s) : MeanAt K H' m s := by
  obtain ⟨kvs, e, f⟩ := M
  refine ⟨kvs, b _ _ e (h.other e fun _ _ _ z => by cases z), fun x => ⟨fun hx => ?_, fun h1 h2 => ?_, (f x).2.2⟩⟩
  · obtain ⟨v, e1, d⟩ := (f x).1 hx
    exact ⟨v, e1, h.dp b _ d⟩
  · obtain ⟨v, e1, d⟩ := (f x).2.1 h1 h2
    exact ⟨v, e1, h.dp b _ d⟩
theorem MeanAt.amg (M : MeanAt K H m s) : Amg K H (.ref m) (s.vars ++ s.locs) := by
  obtain ⟨kvs, e, f⟩ := M
  refine ⟨m, rfl, .inr (.inr ⟨kvs, e, fun x => ?_⟩)⟩
  by_cases h1 : x ∈ s.vars
  · obtain ⟨v, e1, _⟩ := (f x).1 h1
    rw [e1]
    exact (decide_eq_true (List.mem_append_left _ h1)).symm
  · by_cases h2 : x ∈ s.locs
    · obtain ⟨v, e1, _⟩ := (f x).2.1 h1 h2
      rw [e1]
      exact (decide_eq_true (List.mem_append_right _ h2)).symm
    · rw [(f x).2.2 h1 h2]
      exact (decide_eq_false fun z => (List.mem_append.mp z).elim h1 h2).symm
end
/-- what is known of the names in scope -/
structure NoE (s : Sc) : Prop where
  v : Str.empty ∉ s.vars
  l : Str.empty ∉ s.locs
  t : Str.empty ∉ s.tabs
/-- how a reading of an expression ends -/
def ExEnd (C B : Addr) (K : PySem.W.Frag) (p l : Addr) (ws : List Str) (H : Hp) (Q : VK) (E : XK) : Except Nat (Ex × Nat) → Prop
  | .ok (e, j) => ∀ v H', But p H H' → WAt C H' p l ws j → Dp K H' v e.d → Q v H'
  | .error j => Ref p B H j E
def spExpr (C B : Addr) (K : PySem.W.Frag) (k : Nat) : Sp := fun vs H Q E => ∃ (p l m tb : Addr) (ws : List Str) (i : Nat) (s : Sc), vs = [.ref p, .ref m, .ref tb, .int (8 - (k : Int))] ∧ WAt C H p l ws i ∧ MeanAt K H m s ∧ SqL K H tb (s.tabs.map V.str) ∧ NoE s ∧
  ExEnd C B K p l ws H Q E (pExpr ws s k i)
theorem isNum_le {x : Str} (h : isNum x = true) : numW x ≤ 65535 := by
  unfold isNum at h
  rw [Bool.and_eq_true] at h
  have h2 := h.2
  cases e : signs x with
  | nil => rw [e] at h2; cases h2
  | cons c cs =>
    rw [e] at h2
    have h2 : (if c = 48 then decide (x = "0") else decide (numW x ≤ 65535)) = true := h2
    by_cases z : c = 48
    · rw [if_pos z] at h2
      have : x = "0" := of_decide_eq_true h2
      rw [this]
      decide +kernel
    · rw [if_neg z] at h2
      exact of_decide_eq_true h2
theorem dp_look {K : PySem.W.Frag} {H : Hp} {q : Addr} {x t : Str} {v : V} {e : Ex} (hq : H q = none) (h : x ∈ looks) (d : Dp K H v e.d) : Dp K (upd H q (.tup [.str x, .str t, v])) (.ref q) (lookEx x t e).d := by
  unfold lookEx
  rcases List.mem_cons.mp h with rfl | h
  · rw [if_pos rfl]
    unfold Ex.d
    exact dp_tup hq (.cons (.str _) (.cons (.str _) (.cons d .nil)))
  · obtain rfl := List.mem_singleton.mp h
    rw [if_neg (by decide +kernel)]
    unfold Ex.d
    exact dp_tup hq (.cons (.str _) (.cons (.str _) (.cons d .nil)))
/-- the statements behind two ifs, where both fall through -/
theorem tail_split {a a' : TT} {A A' B B' R : TS} {D : Ends} {σ : L2.St} {H : Hp} (c : Prop) (h : (c → R D σ H) → tSeq (tIfS a A A') (tSeq (tIfS a' B B') R) D σ H) (hr : c → R D σ H) : tSeq (tIfS a A A') (tSeq (tIfS a' B B') R) D σ H := h hr
end Pz
set_option Elab.async false
set_option linter.all false
set_option maxRecDepth 100000
set_option maxHeartbeats 4000000
/-! Games in the heap: what a value of data is made of, a Game object, lists that are cut. -/
namespace Gm
open PySem L2
open PyData (strOk)
theorem iteT2 {b : Bool} {A B : Prop} (hb : b = true) (h : A) : if b = true then A else B := by rw [if_pos hb]; exact h
theorem iteF2 {b : Bool} {A B : Prop} (hb : b = false) (h : B) : if b = true then A else B := by rw [if_neg (by rw [hb]; exact Bool.false_ne_true)]; exact h
/-! ### cuts -/
theorem cut_take (xs : List V) (k : Nat) : cutV xs none (some (k : Int)) = xs.take k := by
  unfold cutV
  have e : HT.sIx xs.length xs.length (some (k : Int)) = min k xs.length := by
    have : ¬ ((k : Int) < 0) := by omega
    simp [HT.sIx, this]
    try omega
  rw [e, show HT.sIx xs.length 0 none = 0 from rfl, List.drop_zero, Nat.sub_zero]
  by_cases h : k ≤ xs.length
  · rw [Nat.min_eq_left h]
  · rw [Nat.min_eq_right (by omega), List.take_length, List.take_of_length_le (by omega)]
theorem cut_drop (xs : List V) (k : Nat) : cutV xs (some (k : Int)) none = xs.drop k := by
  unfold cutV
  have e : HT.sIx xs.length 0 (some (k : Int)) = min k xs.length := by
    have : ¬ ((k : Int) < 0) := by omega
    simp [HT.sIx, this]
    try omega
  rw [e, show HT.sIx xs.length xs.length none = xs.length from rfl]
  by_cases h : k ≤ xs.length
  · rw [Nat.min_eq_left h, List.take_of_length_le (by rw [List.length_drop]; exact Nat.le_refl _)]
  · rw [Nat.min_eq_right (by omega), Nat.sub_self, List.take_zero, List.drop_eq_nil_of_le (by omega)]
/-! ### what data is made of -/
section
variable {K : PySem.W.Frag} {H : Hp} {v : V}
theorem dp_inv {ds : List PyData} (h : Dp K H v (.tuple ds)) : ∃ a xs, v = .ref a ∧ SqT K H a xs ∧ DpAll K H xs ds := by
  cases h with
  | tup hs ha => exact ⟨_, _, rfl, hs, ha⟩
theorem dps_cons {vs : List V} {d : PyData} {ds : List PyData} (h : DpAll K H vs (d :: ds)) : ∃ u r, vs = u :: r ∧ Dp K H u d ∧ DpAll K H r ds := by
  cases h with
  | cons h1 h2 => exact ⟨_, _, rfl, h1, h2⟩
theorem dps_nil {vs : List V} (h : DpAll K H vs []) : vs = [] := by
  cases h
  rfl
theorem dp_s {x : Str} (h : Dp K H v (.str x)) : v = .str x := by
  cases h
  rfl
theorem dp_i {x : Int} (h : Dp K H v (.int x)) : v = .int x := by
  cases h
  rfl
theorem dps_strs : ∀ {xs : List Str} {vs : List V}, DpAll K H vs (xs.map PyData.str) → vs = xs.map V.str
  | [], _, h => dps_nil h
  | x :: xs, _, h => by
    obtain ⟨u, r, rfl, h1, h2⟩ := dps_cons h
    rw [dp_s h1, dps_strs h2]
    rfl
theorem one_inv {d : PyData} (h : Dp K H v (.tuple [d])) : ∃ (a : Addr) (u : V), v = .ref a ∧ SqT K H a [u] ∧ Dp K H u d := by
  obtain ⟨a, xs, rfl, hs, dx⟩ := dp_inv h
  obtain ⟨u, r, rfl, d1, d2⟩ := dps_cons dx
  have e := dps_nil d2
  subst e
  exact ⟨a, u, rfl, hs, d1⟩
theorem two_inv {d e : PyData} (h : Dp K H v (.tuple [d, e])) : ∃ (a : Addr) (u z : V), v = .ref a ∧ SqT K H a [u, z] ∧ Dp K H u d ∧ Dp K H z e := by
  obtain ⟨a, xs, rfl, hs, dx⟩ := dp_inv h
  obtain ⟨u, r, rfl, d1, d2⟩ := dps_cons dx
  obtain ⟨z, r, rfl, d3, d4⟩ := dps_cons d2
  have e := dps_nil d4
  subst e
  exact ⟨a, u, z, rfl, hs, d1, d3⟩
theorem three_inv {d e f : PyData} (h : Dp K H v (.tuple [d, e, f])) : ∃ (a : Addr) (u z y : V), v = .ref a ∧ SqT K H a [u, z, y] ∧ Dp K H u d ∧ Dp K H z e ∧ Dp K H y f := by
  obtain ⟨a, xs, rfl, hs, dx⟩ := dp_inv h
  obtain ⟨u, r, rfl, d1, d2⟩ := dps_cons dx
  obtain ⟨z, r, rfl, d3, d4⟩ := dps_cons d2
  obtain ⟨y, r, rfl, d5, d6⟩ := dps_cons d4
  have e := dps_nil d6
  subst e
  exact ⟨a, u, z, y, rfl, hs, d1, d3, d5⟩
theorem four_inv {d e f g : PyData} (h : Dp K H v (.tuple [d, e, f, g])) : ∃ (a : Addr) (u z y x : V), v = .ref a ∧ SqT K H a [u, z, y, x] ∧ Dp K H u d ∧ Dp K H z e ∧ Dp K H y f ∧ Dp K H x g := by
  obtain ⟨a, xs, rfl, hs, dx⟩ := dp_inv h
  obtain ⟨u, r, rfl, d1, d2⟩ := dps_cons dx
  obtain ⟨z, r, rfl, d3, d4⟩ := dps_cons d2
  obtain ⟨y, r, rfl, d5, d6⟩ := dps_cons d4
  obtain ⟨x, r, rfl, d7, d8⟩ := dps_cons d6
  have e := dps_nil d8
  subst e
  exact ⟨a, u, z, y, x, rfl, hs, d1, d3, d5, d7⟩
/-- a procedure in the heap -/
theorem pr_inv {p : Pr} (h : Dp K H v p.d) : ∃ (a la ba : Addr) (r : V) (bs : List V), v = .ref a ∧ SqT K H a [.str p.name, .int p.size, .int p.ans, .ref la, .ref ba, r] ∧ SqT K H la (p.locs.map V.str) ∧ SqT K H ba bs ∧ DpAll K H bs (p.block.l.map Stm.d) ∧ Dp K H r p.res.d := by
  unfold Pr.d strD Blk.d at h
  obtain ⟨a, xs, rfl, hs, dx⟩ := dp_inv h
  obtain ⟨u1, r, rfl, d1, dx⟩ := dps_cons dx
  obtain ⟨u2, r, rfl, d2, dx⟩ := dps_cons dx
  obtain ⟨u3, r, rfl, d3, dx⟩ := dps_cons dx
  obtain ⟨u4, r, rfl, d4, dx⟩ := dps_cons dx
  obtain ⟨u5, r, rfl, d5, dx⟩ := dps_cons dx
  obtain ⟨u6, r, rfl, d6, dx⟩ := dps_cons dx
  have e := dps_nil dx
  subst e
  obtain ⟨la, ls, rfl, hl, dl⟩ := dp_inv d4
  obtain ⟨ba, bs, rfl, hb, db⟩ := dp_inv d5
  rw [dp_s d1, dp_i d2, dp_i d3] at hs
  rw [dps_strs dl] at hl
  rw [Blk.ds_l] at db
  exact ⟨a, la, ba, u6, bs, rfl, hs, hl, hb, db, d6⟩
theorem trip_inv {t : Str × Int × Int} (h : Dp K H v (trip t)) : ∃ a : Addr, v = .ref a ∧ SqT K H a [.str t.1, .int t.2.1, .int t.2.2] := by
  obtain ⟨a, u, z, y, rfl, hs, d1, d2, d3⟩ := three_inv h
  rw [dp_s d1, dp_i d2, dp_i d3] at hs
  exact ⟨a, rfl, hs⟩
theorem trips_inv {ts : List (Str × Int × Int)} (h : Dp K H v (trips ts)) : ∃ (a : Addr) (xs : List V), v = .ref a ∧ SqT K H a xs ∧ DpAll K H xs (ts.map trip) := dp_inv h
theorem num_inv {n : Int} (h : Dp K H v (Ex.num n).d) : ∃ a : Addr, v = .ref a ∧ SqT K H a [.str "number", .int n] := by
  obtain ⟨a, u, z, rfl, hs, d1, d2⟩ := two_inv h
  rw [dp_s d1, dp_i d2] at hs
  exact ⟨a, rfl, hs⟩
theorem loc_inv {x : Str} (h : Dp K H v (Ex.loc x).d) : ∃ a : Addr, v = .ref a ∧ SqT K H a [.str "local", .str x] := by
  obtain ⟨a, u, z, rfl, hs, d1, d2⟩ := two_inv h
  rw [dp_s d1, dp_s d2] at hs
  exact ⟨a, rfl, hs⟩
theorem var_inv {x : Str} (h : Dp K H v (Ex.var x).d) : ∃ a : Addr, v = .ref a ∧ SqT K H a [.str "variable", .str x] := by
  obtain ⟨a, u, z, rfl, hs, d1, d2⟩ := two_inv h
  rw [dp_s d1, dp_s d2] at hs
  exact ⟨a, rfl, hs⟩
theorem has_inv {t : Str} {e : Ex} (h : Dp K H v (Ex.has t e).d) : ∃ (a : Addr) (u : V), v = .ref a ∧ SqT K H a [.str "has", .str t, u] ∧ Dp K H u e.d := by
  obtain ⟨a, u, z, y, rfl, hs, d1, d2, d3⟩ := three_inv h
  rw [dp_s d1, dp_s d2] at hs
  exact ⟨a, y, rfl, hs, d3⟩
theorem cell_inv {t : Str} {e : Ex} (h : Dp K H v (Ex.cell t e).d) : ∃ (a : Addr) (u : V), v = .ref a ∧ SqT K H a [.str "cell", .str t, u] ∧ Dp K H u e.d := by
  obtain ⟨a, u, z, y, rfl, hs, d1, d2, d3⟩ := three_inv h
  rw [dp_s d1, dp_s d2] at hs
  exact ⟨a, y, rfl, hs, d3⟩
theorem op_inv {o : Str} {e f : Ex} (h : Dp K H v (Ex.op o e f).d) : ∃ (a : Addr) (u z : V), v = .ref a ∧ SqT K H a [.str o, u, z] ∧ Dp K H u e.d ∧ Dp K H z f.d := by
  obtain ⟨a, u, z, y, rfl, hs, d1, d2, d3⟩ := three_inv h
  rw [dp_s d1] at hs
  exact ⟨a, z, y, rfl, hs, d2, d3⟩
/-- the kind of an expression -/
def Ex.kind : Ex → Str
  | .num _ => "number" | .loc _ => "local" | .var _ => "variable" | .has _ _ => "has" | .cell _ _ => "cell" | .op o _ _ => o
theorem ex_inv {e : Ex} (h : Dp K H v e.d) : ∃ (a : Addr) (r : List V), v = .ref a ∧ SqT K H a (.str e.kind :: r) := by
  cases e with
  | num n => obtain ⟨a, rfl, hs⟩ := num_inv h; exact ⟨a, _, rfl, hs⟩
  | loc n => obtain ⟨a, rfl, hs⟩ := loc_inv h; exact ⟨a, _, rfl, hs⟩
  | var n => obtain ⟨a, rfl, hs⟩ := var_inv h; exact ⟨a, _, rfl, hs⟩
  | has t e => obtain ⟨a, u, rfl, hs, _⟩ := has_inv h; exact ⟨a, _, rfl, hs⟩
  | cell t e => obtain ⟨a, u, rfl, hs, _⟩ := cell_inv h; exact ⟨a, _, rfl, hs⟩
  | op o e f => obtain ⟨a, u, z, rfl, hs, _⟩ := op_inv h; exact ⟨a, _, rfl, hs⟩
theorem stm_inv {s : Stm} (h : Dp K H v s.d) : ∃ (a : Addr) (r : List V), v = .ref a ∧ SqT K H a (.str s.kind :: r) ∧ DpAll K H r s.args := by
  rw [Stm.d_kind] at h
  obtain ⟨a, xs, rfl, hs, dx⟩ := dp_inv h
  obtain ⟨u, r, rfl, d1, d2⟩ := dps_cons dx
  rw [dp_s d1] at hs
  exact ⟨a, r, rfl, hs, d2⟩
end
/-! ### a Game object -/
theorem g1_ : ¬ (("variables" : Str) = "tables") := by decide +kernel
theorem g2_ : ¬ (("variables" : Str) = "lots") := by decide +kernel
theorem g3_ : ¬ (("variables" : Str) = "procs") := by decide +kernel
theorem g4_ : ¬ (("tables" : Str) = "lots") := by decide +kernel
theorem g5_ : ¬ (("tables" : Str) = "procs") := by decide +kernel
theorem g6_ : ¬ (("lots" : Str) = "procs") := by decide +kernel
def gf (a b c d : V) : List (Str × V) := putF "procs" d (putF "lots" c (putF "tables" b (putF "variables" a [])))
section
variable (a b c d : V)
theorem gf_procs : (gf a b c d).lookup ("procs" : Str) = some d := by unfold gf; rw [lookup_putF, if_pos rfl]
theorem gf_lots : (gf a b c d).lookup ("lots" : Str) = some c := by unfold gf; rw [lookup_putF, if_neg g6_, lookup_putF, if_pos rfl]
theorem gf_tables : (gf a b c d).lookup ("tables" : Str) = some b := by unfold gf; rw [lookup_putF, if_neg g5_, lookup_putF, if_neg g4_, lookup_putF, if_pos rfl]
theorem gf_variables : (gf a b c d).lookup ("variables" : Str) = some a := by unfold gf; rw [lookup_putF, if_neg g3_, lookup_putF, if_neg g2_, lookup_putF, if_neg g1_, lookup_putF, if_pos rfl]
theorem gf_no {m : Str} (h1 : ¬ m = "variables") (h2 : ¬ m = "tables") (h3 : ¬ m = "lots") (h4 : ¬ m = "procs") : (gf a b c d).lookup m = none := by
  unfold gf
  rw [lookup_putF, if_neg h4, lookup_putF, if_neg h3, lookup_putF, if_neg h2, lookup_putF, if_neg h1]
  all_goals rfl
theorem gf_proc : (gf a b c d).lookup ("proc" : Str) = none := gf_no a b c d (by decide +kernel) (by decide +kernel) (by decide +kernel) (by decide +kernel)
end
/-- the object g is the game G -/
def GmD (K : PySem.W.Frag) (C : Addr) (H : Hp) (g : Addr) (G : Ga) : Prop := ∃ dx a b c d, H g = some (.ins C dx (gf a b c d)) ∧ Dp K H a (trips G.vars) ∧ Dp K H b (trips G.tabs) ∧ Dp K H c (trips G.lots) ∧ Dp K H d (.tuple (G.procs.map Pr.d))
theorem GmD.same {K : PySem.W.Frag} {C : Addr} {H H' : Hp} {g : Addr} {G : Ga} (h : GmD K C H g G) (s : Same H H') : GmD K C H' g G :=
  let ⟨dx, a, b, c, d, h0, h1, h2, h3, h4⟩ := h
  ⟨dx, a, b, c, d, s _ _ h0, dp_mono s _ _ h1, dp_mono s _ _ h2, dp_mono s _ _ h3, dp_mono s _ _ h4⟩
/-- the procedure with a name -/
def Ga.proc (G : Ga) (n : Str) : Option Pr := G.procs.find? fun p => decide (p.name = n)
theorem find_at {ps : List Pr} {n : Str} : ∀ {i : Nat} {p : Pr}, (∀ q ∈ ps.take i, q.name ≠ n) → ps[i]? = some p → p.name = n → ps.find? (fun p => decide (p.name = n)) = some p := by
  induction ps with
  | nil => intro i p _ h; simp at h
  | cons a ps ih =>
    intro i p h e hp
    match i with
    | 0 =>
      have e' : a = p := Option.some.inj e
      subst e'
      rw [List.find?_cons, decide_eq_true hp]
    | i + 1 =>
      have ha := h a (by simp)
      rw [List.find?_cons, decide_eq_false ha]
      exact ih (i := i) (fun q hq => h q (by simp [hq])) e hp
theorem find_no {ps : List Pr} {n : Str} (h : ∀ q ∈ ps, q.name ≠ n) : ps.find? (fun p => decide (p.name = n)) = none := by
  rw [List.find?_eq_none]
  intro x hx
  simp [h x hx]
theorem Ga.proc_mem {G : Ga} {n : Str} {p : Pr} (h : G.proc n = some p) : p ∈ G.procs ∧ p.name = n := ⟨List.mem_of_find?_eq_some h, of_decide_eq_true (by have := List.find?_some h; exact this)⟩
/-- the statement k of a procedure -/
def Ga.At (G : Ga) (n : Str) (k : Int) (p : Pr) (j : Nat) (s : Stm) : Prop := G.proc n = some p ∧ k = (j : Int) ∧ p.block.l[j]? = some s
/-- a procedure in the place of those with its name -/
def Ga.put (G : Ga) (p : Pr) : Ga := { G with procs := G.procs.map fun q => if q.name = p.name then p else q }
def Pr.repl (p : Pr) (at_ many : Nat) (ss : List Stm) : Pr := { p with block := Blk.of (p.block.l.take at_ ++ ss ++ p.block.l.drop (at_ + many)) }
/-! ### equal games -/
theorem trip_inj {s t : Str × Int × Int} (h : trip s = trip t) : s = t := by
  obtain ⟨a, b, c⟩ := s
  obtain ⟨x, y, z⟩ := t
  unfold trip at h
  injection h with h
  injection h with h1 h
  injection h with h2 h
  injection h with h3 h
  injection h1 with h1
  injection h2 with h2
  injection h3 with h3
  dsimp only at h1 h2 h3
  rw [h1, h2, h3]
theorem map_inj {α β : Type} {f : α → β} (hf : ∀ a b, f a = f b → a = b) : ∀ {xs ys : List α}, xs.map f = ys.map f → xs = ys
  | [], [], _ => rfl
  | [], _ :: _, h => by cases h
  | _ :: _, [], h => by cases h
  | x :: xs, y :: ys, h => by
    rw [List.map_cons, List.map_cons] at h
    injection h with h1 h2
    rw [hf _ _ h1, map_inj hf h2]
theorem trips_inj {s t : List (Str × Int × Int)} (h : trips s = trips t) : s = t := by
  unfold trips at h
  injection h with h
  exact map_inj (fun _ _ => trip_inj) h
theorem str_inj' : ∀ a b : Str, PyData.str a = PyData.str b → a = b := fun a b h => by injection h
theorem Pr.inj (p q : Pr) (h : p.d = q.d) : p = q := by
  unfold Pr.d strD Blk.d at h
  injection h with h
  injection h with h1 h
  injection h with h2 h
  injection h with h3 h
  injection h with h4 h
  injection h with h5 h
  injection h with h6 h
  injection h1 with h1
  injection h2 with h2
  injection h3 with h3
  injection h4 with h4
  injection h5 with h5
  have e4 := map_inj str_inj' h4
  have e5 := Blk.inj _ _ h5
  have e6 := Ex.inj _ _ h6
  cases p
  cases q
  dsimp only at h1 h2 h3 e4 e5 e6
  subst h1 h2 h3 e4 e5 e6
  rfl
theorem procs_inj {s t : List Pr} (h : PyData.tuple (s.map Pr.d) = PyData.tuple (t.map Pr.d)) : s = t := by
  injection h with h
  exact map_inj Pr.inj h
theorem Ga.ext {G F : Ga} (h1 : G.vars = F.vars) (h2 : G.tabs = F.tabs) (h3 : G.lots = F.lots) (h4 : G.procs = F.procs) : G = F := by
  cases G
  cases F
  dsimp only at h1 h2 h3 h4
  subst h1 h2 h3 h4
  rfl
theorem Ga.inj {G F : Ga} (h : G.d = F.d) : G = F := by
  unfold Ga.d at h
  injection h with h
  injection h with h1 h
  injection h with h2 h
  injection h with h3 h
  injection h with h4 h
  exact Ga.ext (trips_inj h1) (trips_inj h2) (trips_inj h3) (procs_inj h4)
/-! ### what expressions read -/
/-- an expression and all in it -/
def Ex.subs : Ex → List Ex
  | .num n => [.num n]
  | .loc x => [.loc x]
  | .var x => [.var x]
  | .has t e => .has t e :: e.subs
  | .cell t e => .cell t e :: e.subs
  | .op o a b => .op o a b :: (a.subs ++ b.subs)
def Ex.rd1 : Ex → Option (Str × Str)
  | .loc x => some ("local", x)
  | .var x => some ("variable", x)
  | .has t _ => some ("table", t)
  | .cell t _ => some ("table", t)
  | _ => none
def Ex.reads (e : Ex) : List (Str × Str) := e.subs.filterMap Ex.rd1
def plD (p : Str × Str) : PyData := .tuple [.str p.1, .str p.2]
theorem plD_inj {p q : Str × Str} (h : plD p = plD q) : p = q := by
  obtain ⟨a, b⟩ := p
  obtain ⟨c, d⟩ := q
  unfold plD at h
  injection h with h
  injection h with h1 h
  injection h with h2 h
  injection h1 with h1
  injection h2 with h2
  dsimp only at h1 h2
  rw [h1, h2]
theorem Ex.subs_len : ∀ {k : Nat} {e : Ex}, exF k e → e.subs.length + 1 ≤ 2 ^ k
  | 0, _, h => h.elim
  | k + 1, .num n, _ => by have := Nat.one_le_two_pow (n := k); rw [Nat.pow_succ]; show 2 ≤ _; omega
  | k + 1, .loc n, _ => by have := Nat.one_le_two_pow (n := k); rw [Nat.pow_succ]; show 2 ≤ _; omega
  | k + 1, .var n, _ => by have := Nat.one_le_two_pow (n := k); rw [Nat.pow_succ]; show 2 ≤ _; omega
  | k + 1, .has t e, h => by
    have := Ex.subs_len h.2
    have := Nat.one_le_two_pow (n := k)
    unfold Ex.subs
    rw [List.length_cons, Nat.pow_succ]
    omega
  | k + 1, .cell t e, h => by
    have := Ex.subs_len h.2
    have := Nat.one_le_two_pow (n := k)
    unfold Ex.subs
    rw [List.length_cons, Nat.pow_succ]
    omega
  | k + 1, .op o a b, h => by
    have h1 := Ex.subs_len h.2.1
    have h2 := Ex.subs_len h.2.2
    unfold Ex.subs
    rw [List.length_cons, List.length_append, Nat.pow_succ]
    omega
theorem Ex.subs_fit : ∀ {k : Nat} {e : Ex}, exF k e → ∀ x ∈ e.subs, exF k x
  | 0, _, h, _, _ => h.elim
  | k + 1, .num n, h, x, hx => by rw [List.mem_singleton.mp hx]; exact h
  | k + 1, .loc n, h, x, hx => by rw [List.mem_singleton.mp hx]; exact h
  | k + 1, .var n, h, x, hx => by rw [List.mem_singleton.mp hx]; exact h
  | k + 1, .has t e, h, x, hx => by
    rcases List.mem_cons.mp hx with rfl | hx
    · exact h
    · exact (Ex.subs_fit h.2 x hx).mono (by omega)
  | k + 1, .cell t e, h, x, hx => by
    rcases List.mem_cons.mp hx with rfl | hx
    · exact h
    · exact (Ex.subs_fit h.2 x hx).mono (by omega)
  | k + 1, .op o a b, h, x, hx => by
    rcases List.mem_cons.mp hx with rfl | hx
    · exact h
    rcases List.mem_append.mp hx with hx | hx
    · exact (Ex.subs_fit h.2.1 x hx).mono (by omega)
    · exact (Ex.subs_fit h.2.2 x hx).mono (by omega)
theorem nolAll_ex : ∀ es : List Ex, nolAll (es.map Ex.d) = true
  | [] => rfl
  | e :: es => by show (nol e.d && nolAll (es.map Ex.d)) = true; rw [nolAll_ex es, Ex.nol]; rfl
theorem nolAll_pl : ∀ es : List (Str × Str), nolAll (es.map plD) = true
  | [] => rfl
  | e :: es => by show (nol (plD e) && nolAll (es.map plD)) = true; rw [nolAll_pl es]; rfl
/-- a list of data that grows by many -/
theorem Acc.ext {K : PySem.W.Frag} {H0 H : Hp} {l : Addr} {vs us : List V} {ds es : List PyData} (a : Acc K H0 H l vs ds) (hd : DpAll K H us es) (hn : nolAll es = true) : Acc K H0 (upd H l (.lst (vs ++ us))) l (vs ++ us) (ds ++ es) := by
  have tp : Tups H (upd H l (.lst (vs ++ us))) := Tups.lst a.l
  refine ⟨fun b o e => by rw [upd_ne (ne_of_none e a.f)]; exact a.s _ _ e, a.f, upd_same, DpAll.app (dp_tupsAll tp _ _ a.n a.d) (dp_tupsAll tp _ _ hn hd), ?_⟩
  rw [nolAll_app, a.n, hn]
  rfl
/-! ### texts and numbers in a tuple -/
theorem in_ints (x : Int) : ∀ xs : List Int, inV (.int x) (xs.map V.int) = decide (x ∈ xs)
  | [] => rfl
  | y :: xs => by
    have ih := in_ints x xs
    unfold inV at ih ⊢
    rw [List.map_cons, List.any_cons, ih]
    by_cases h : y = x
    · subst h
      rw [show eqV (.int y) (.int y) = true from by simp [eqV], Bool.true_or]
      exact (decide_eq_true List.mem_cons_self).symm
    · rw [show eqV (.int y) (.int x) = false from by simp [eqV, h], Bool.false_or]
      refine decide_eq_decide.mpr ⟨List.mem_cons_of_mem _, fun m => ?_⟩
      rcases List.mem_cons.mp m with e | e
      · exact absurd e.symm h
      · exact e
theorem flat_ints : ∀ xs : List Int, (xs.map V.int).all flatV = true
  | [] => rfl
  | x :: xs => by rw [List.map_cons, List.all_cons, flat_ints xs]; rfl
/-- an expression's kind, when it is an operator -/
theorem kind_op {k : Nat} {e : Ex} (h : exF k e) : (e.kind ∈ ops ↔ ∃ o a b, e = .op o a b) := by
  match k, e, h with
  | 0, _, h => exact h.elim
  | k + 1, .op o a b, h => exact ⟨fun _ => ⟨o, a, b, rfl⟩, fun _ => h.1⟩
  | k + 1, .num n, h => exact ⟨fun z => absurd (show ("number" : Str) ∈ ops from z) (by decide +kernel), fun ⟨_, _, _, z⟩ => by cases z⟩
  | k + 1, .loc n, h => exact ⟨fun z => absurd (show ("local" : Str) ∈ ops from z) (by decide +kernel), fun ⟨_, _, _, z⟩ => by cases z⟩
  | k + 1, .var n, h => exact ⟨fun z => absurd (show ("variable" : Str) ∈ ops from z) (by decide +kernel), fun ⟨_, _, _, z⟩ => by cases z⟩
  | k + 1, .has t n, h => exact ⟨fun z => absurd (show ("has" : Str) ∈ ops from z) (by decide +kernel), fun ⟨_, _, _, z⟩ => by cases z⟩
  | k + 1, .cell t n, h => exact ⟨fun z => absurd (show ("cell" : Str) ∈ ops from z) (by decide +kernel), fun ⟨_, _, _, z⟩ => by cases z⟩
def isShift (e : Ex) (l : Str) (n : Int) : Prop := ∃ y, e = .op "mod" (.op "+" (.loc l) y) (.num n) ∧ (("local" : Str), l) ∉ y.reads
theorem FitAll.take {n : Nat} : ∀ {ds : List PyData} {k : Nat}, FitAll n ds → FitAll n (ds.take k)
  | [], k, h => by rw [List.take_nil]; exact h
  | d :: ds, 0, _ => .nil
  | d :: ds, k + 1, h => by
    have h' : (pln d && plnAll ds) = true := h.1
    rw [Bool.and_eq_true] at h'
    have h2 := h.2
    rw [PyData.depthAll] at h2
    have h3 := Nat.max_le.mp h2
    exact .cons ⟨h'.1, h3.1⟩ (FitAll.take ⟨h'.2, h3.2⟩)
theorem DpAll.take {K : PySem.W.Frag} {H : Hp} : ∀ {vs : List V} {ds : List PyData} (k : Nat), DpAll K H vs ds → DpAll K H (vs.take k) (ds.take k)
  | _, _, 0, _ => by rw [List.take_zero, List.take_zero]; exact .nil
  | _, _, _ + 1, .nil => .nil
  | _, _, k + 1, .cons h t => .cons h (DpAll.take k t)
theorem DpAll.drop {K : PySem.W.Frag} {H : Hp} : ∀ {vs : List V} {ds : List PyData} (k : Nat), DpAll K H vs ds → DpAll K H (vs.drop k) (ds.drop k)
  | _, _, 0, h => h
  | _, _, _ + 1, .nil => .nil
  | _, _, k + 1, .cons _ t => DpAll.drop k t
theorem rd1_ok {k : Nat} {e : Ex} {p : Str × Str} (h : exF k e) (hp : e.rd1 = some p) : strOk p.1 = true ∧ strOk p.2 = true := by
  match k, e, h with
  | 0, _, h => exact h.elim
  | k + 1, .num n, h => cases hp
  | k + 1, .op o a b, h => cases hp
  | k + 1, .loc x, h => cases hp; exact ⟨strOk_lit.2.1, nm_ok h⟩
  | k + 1, .var x, h => cases hp; exact ⟨strOk_lit.2.2.1, nm_ok h⟩
  | k + 1, .has t x, h => cases hp; exact ⟨(by decide +kernel : strOk "table" = true), nm_ok h.1⟩
  | k + 1, .cell t x, h => cases hp; exact ⟨(by decide +kernel : strOk "table" = true), nm_ok h.1⟩
theorem reads_ok {k : Nat} {e : Ex} (h : exF k e) : ∀ p ∈ e.reads, strOk p.1 = true ∧ strOk p.2 = true := fun p hp => by
  obtain ⟨x, hx, e1⟩ := List.mem_filterMap.mp hp
  exact rd1_ok (Ex.subs_fit h x hx) e1
theorem fit_pl {n : Nat} {p : Str × Str} (h : strOk p.1 = true ∧ strOk p.2 = true) : Fit (n + 1) (plD p) := (FitAll.cons (.str h.1) (.cons (.str h.2) .nil)).tup
theorem fit_pls {n : Nat} {ps : List (Str × Str)} (h : ∀ p ∈ ps, strOk p.1 = true ∧ strOk p.2 = true) : Fit (n + 2) (.list (ps.map plD)) := FitAll.lst (FitAll.of fun d hd => by
  obtain ⟨p, hp, rfl⟩ := List.mem_map.mp hd
  exact fit_pl (h p hp))
theorem any_pl {p : Str × Str} {ps : List (Str × Str)} (hp : strOk p.1 = true ∧ strOk p.2 = true) (h : ∀ p ∈ ps, strOk p.1 = true ∧ strOk p.2 = true) : (((ps.map plD).any fun z => PyData.eqv z (plD p)) = true ↔ p ∈ ps) := by
  rw [List.any_eq_true]
  constructor
  · rintro ⟨z, hz, e⟩
    obtain ⟨q, hq, rfl⟩ := List.mem_map.mp hz
    rw [← plD_inj ((eqv_iff (fit_pl (n := 0) (h q hq)).1 (fit_pl (n := 0) hp).1).mp e)]
    exact hq
  · intro m
    exact ⟨_, List.mem_map.mpr ⟨p, m, rfl⟩, (eqv_iff (fit_pl (n := 0) hp).1 (fit_pl (n := 0) hp).1).mpr rfl⟩
theorem exF_op {k : Nat} {o : Str} {a b : Ex} (h : exF k (.op o a b)) : ∃ j, k = j + 1 ∧ exF j a ∧ exF j b ∧ o ∈ ops := by
  match k, h with
  | j + 1, h => exact ⟨j, rfl, h.2.1, h.2.2, h.1⟩
/-- an expression whose kind is an operator's is that operator -/
theorem kind_is {e : Ex} {o : Str} (h : e.kind = o) (ho : o ∈ ops) : ∃ a b, e = .op o a b := by
  cases e with
  | op p a b => exact ⟨a, b, by rw [show p = o from h]⟩
  | num n => exact absurd (show ("number" : Str) ∈ ops from by rw [show ("number" : Str) = o from h]; exact ho) (by decide +kernel)
  | loc n => exact absurd (show ("local" : Str) ∈ ops from by rw [show ("local" : Str) = o from h]; exact ho) (by decide +kernel)
  | var n => exact absurd (show ("variable" : Str) ∈ ops from by rw [show ("variable" : Str) = o from h]; exact ho) (by decide +kernel)
  | has t n => exact absurd (show ("has" : Str) ∈ ops from by rw [show ("has" : Str) = o from h]; exact ho) (by decide +kernel)
  | cell t n => exact absurd (show ("cell" : Str) ∈ ops from by rw [show ("cell" : Str) = o from h]; exact ho) (by decide +kernel)
/-- a place as a text -/
def usT (p : Str × Str) : Str := p.1 ++ " " ++ p.2
theorem kinds_rd {e : Ex} {p : Str × Str} (h : e.rd1 = some p) : p.1 = "local" ∨ p.1 = "variable" ∨ p.1 = "table" := by
  cases e <;> first | (cases h; simp) | cases h
theorem usT_tl (p : Str × Str) : TL.tl (usT p) = TL.tl p.1 ++ 32 :: TL.tl p.2 := by
  unfold usT
  rw [TL.tl_append, TL.tl_append, show TL.tl " " = [32] from by decide +kernel, List.append_assoc]
  rfl
theorem usT_inj {p : Str × Str} {l : Str} (hk : p.1 = "local" ∨ p.1 = "variable" ∨ p.1 = "table") (h : usT p = usT (("local" : Str), l)) : p = ((("local" : Str), l) : Str × Str) := by
  obtain ⟨k, x⟩ := p
  have h := congrArg TL.tl h
  rw [usT_tl, usT_tl] at h
  have e1 : TL.tl "local" = [108, 111, 99, 97, 108] := by decide +kernel
  have e2 : TL.tl "variable" = [118, 97, 114, 105, 97, 98, 108, 101] := by decide +kernel
  have e3 : TL.tl "table" = [116, 97, 98, 108, 101] := by decide +kernel
  dsimp only at hk h
  rcases hk with hk | hk | hk <;> subst hk
  · rw [e1] at h
    have h : TL.tl x = TL.tl l := by injection h with _ h; injection h with _ h; injection h with _ h; injection h with _ h; injection h with _ h; injection h with _ h
    rw [TL.ext_tl h]
  · rw [e1, e2] at h
    simp at h
  · rw [e1, e3] at h
    simp at h
theorem reads_us {e : Ex} {l : Str} : usT (("local" : Str), l) ∈ e.reads.map usT ↔ (("local" : Str), l) ∈ e.reads := by
  constructor
  · intro h
    obtain ⟨p, hp, e1⟩ := List.mem_map.mp h
    obtain ⟨x, hx, e2⟩ := List.mem_filterMap.mp hp
    rw [← usT_inj (kinds_rd e2) e1]
    exact hp
  · intro h
    exact List.mem_map.mpr ⟨_, h, rfl⟩
theorem reads_len {k : Nat} {e : Ex} (h : exF k e) (hk : k ≤ 12) : e.reads.length ≤ 4096 := by
  have h1 := Ex.subs_len h
  have h2 := List.length_filterMap_le Ex.rd1 e.subs
  have h3 : (2 : Nat) ^ k ≤ 2 ^ 12 := Nat.pow_le_pow_right (by decide) hk
  have h4 : (2 : Nat) ^ 12 = 4096 := by decide
  unfold Ex.reads
  omega
theorem reads_op {o : Str} {a b : Ex} : (Ex.op o a b).reads = a.reads ++ b.reads := by
  unfold Ex.reads
  rw [show (Ex.op o a b).subs = .op o a b :: (a.subs ++ b.subs) from rfl, List.filterMap_cons_none rfl, List.filterMap_append]
theorem reads_has {t : Str} {a : Ex} : (Ex.has t a).reads = (("table" : Str), t) :: a.reads := by
  unfold Ex.reads
  rw [show (Ex.has t a).subs = .has t a :: a.subs from rfl]
  exact List.filterMap_cons_some (f := Ex.rd1) (b := (("table" : Str), t)) rfl
theorem reads_cell {t : Str} {a : Ex} : (Ex.cell t a).reads = (("table" : Str), t) :: a.reads := by
  unfold Ex.reads
  rw [show (Ex.cell t a).subs = .cell t a :: a.subs from rfl]
  exact List.filterMap_cons_some (f := Ex.rd1) (b := (("table" : Str), t)) rfl
/-- another block and other locals in the procedure with a name -/
def Ga.setB (G : Ga) (n : Str) (locs : List Str) (b : Blk) : Ga := { G with procs := G.procs.map fun q => if q.name = n then { q with locs := locs, block := b } else q }
end Gm
set_option Elab.async false
set_option linter.all false
set_option maxRecDepth 100000
set_option maxHeartbeats 4000000
/-! Games whose procedures are changed; picks; the rest of a suite stated once. -/
namespace Gm
open PySem L2
open PyData (strOk)
theorem pick_ix {vs : List V} {r : Int} (h : 0 < vs.length) : ∃ (i : Nat) (v : V), vs[i]? = some v ∧ atI vs (r % ((vs.length : Nat) : Int)) = some v := by
  have h0 := Int.emod_nonneg r (by omega : (vs.length : Int) ≠ 0)
  have h1 := Int.emod_lt_of_pos r (by omega : (0 : Int) < vs.length)
  have hk : (r % (vs.length : Int)).toNat < vs.length := by omega
  exact ⟨_, _, List.getElem?_eq_getElem hk, at_of (j := (r % (vs.length : Int)).toNat) (by omega) (List.getElem?_eq_getElem hk)⟩
theorem if_and {c d : Bool} {A : Prop} {Q : VK} {H : Hp} (hA : Q (.bl d) H → A) (h : Q (.bl (c && d)) H) : if c = true then A else Q (.bl false) H := by
  cases c
  · exact iteF2 rfl h
  · exact iteT2 rfl (hA h)
/-- the rest behind an assignment, stated once -/
theorem asg_k {te : TE} {g : TG} {v : TS} {D : Ends} {σ : L2.St} {H : Hp} (I : V → Hp → Prop) (rest : ∀ x H', I x H' → g x σ H' (v D)) (h : (∀ x H', I x H' → g x σ H' (v D)) → te σ H fun x H' => g x σ H' (v D)) : tSeq (tAsg te g) v D σ H := h rest
/-- the rest behind an if, stated once -/
theorem seq_k {c : TT} {t u v : TS} {D : Ends} {σ : L2.St} {H : Hp} (I : L2.St → Hp → Prop) (rest : ∀ σ H, I σ H → v D σ H) (h : (∀ σ H, I σ H → v D σ H) → tSeq (tIfS c t u) v D σ H) : tSeq (tIfS c t u) v D σ H := h rest
/-- a name is given its value -/
theorem gn {i : Nat} {v : V} {σ : L2.St} {H : Hp} {Q : L2.St → Hp → Prop} (h : Q (σ.set i (some v)) H) : gName i v σ H Q := h
/-- the rest, from what is known -/
theorem rest_k {v : TS} {D : Ends} {σ : L2.St} {H : Hp} (I : L2.St → Hp → Prop) (rest : ∀ σ H, I σ H → v D σ H) (h : I σ H) : v D σ H := rest σ H h
theorem ScN.ofGa {g : Ga} (h : GaOk g) {q : Pr} (hq : q ∈ g.procs) : ScN (g.sc q.locs []) := by
  have v : ∀ x ∈ g.vars.map (·.1), nmB x = true := fun x hx => by
    rcases h.vars with e | e | e <;> rw [e] at hx <;> exact all_nm (by decide +kernel) x hx
  have t : ∀ x ∈ g.tabs.map (·.1), nmB x = true := fun x hx => by
    rcases h.tabs with e | e | e <;> rw [e] at hx <;> exact all_nm (by decide +kernel) x hx
  have o : ∀ x ∈ g.lots.map (·.1), nmB x = true := fun x hx => by
    rcases h.lots with e | e | e <;> rw [e] at hx <;> exact all_nm (by decide +kernel) x hx
  have l : ∀ x ∈ q.locs, nmB x = true := fun x hx => by
    rcases (h.proc q hq).locs with e | e <;> rw [e] at hx <;> exact all_nm (by decide +kernel) x hx
  exact ⟨l, v, t, o, fun x h => nomatch h⟩
/-! ### names of procedures -/
/-- no two procedures have one name -/
def Uniq (ps : List Pr) : Prop := ∀ p ∈ ps, ∀ q ∈ ps, p.name = q.name → p = q
theorem Uniq.of {ps : List Pr} (h : (ps.map (·.name)).Nodup) : Uniq ps := by
  induction ps with
  | nil => intro p hp; cases hp
  | cons a ps ih =>
    rw [List.map_cons, List.nodup_cons] at h
    intro p hp q hq e
    rcases List.mem_cons.mp hp with e1 | hp' <;> rcases List.mem_cons.mp hq with e2 | hq'
    · rw [e1, e2]
    · exact (h.1 (List.mem_map.mpr ⟨q, hq', by rw [← e, e1]⟩)).elim
    · exact (h.1 (List.mem_map.mpr ⟨p, hp', by rw [e, e2]⟩)).elim
    · exact ih h.2 p hp' q hq' e
theorem Uniq.ofOk {g : Ga} (h : GaOk g) : Uniq g.procs := by
  refine Uniq.of ?_
  rcases h.procs with e | e <;> rw [e] <;> decide +kernel
theorem Uniq.proc {G : Ga} (h : Uniq G.procs) {p : Pr} (hp : p ∈ G.procs) : G.proc p.name = some p := by
  cases e : G.proc p.name with
  | none =>
    have := List.find?_eq_none.mp e p hp
    simp at this
  | some q =>
    have hq := Ga.proc_mem e
    rw [h q hq.1 p hp hq.2]
/-- the procedures, each in a new form that keeps its name -/
theorem find_map {ps : List Pr} {f : Pr → Pr} (hf : ∀ p, (f p).name = p.name) (n : Str) : (ps.map f).find? (fun p => decide (p.name = n)) = (ps.find? fun p => decide (p.name = n)).map f := by
  induction ps with
  | nil => rfl
  | cons a ps ih =>
    rw [List.map_cons, List.find?_cons, List.find?_cons, hf a, ih]
    by_cases h : a.name = n
    · rw [decide_eq_true h]
      rfl
    · rw [decide_eq_false h]
theorem Uniq.map {ps : List Pr} {f : Pr → Pr} (hf : ∀ p, (f p).name = p.name) (h : Uniq ps) : Uniq (ps.map f) := by
  intro p hp q hq e
  obtain ⟨a, ha, rfl⟩ := List.mem_map.mp hp
  obtain ⟨b, hb, rfl⟩ := List.mem_map.mp hq
  rw [hf, hf] at e
  rw [h a ha b hb e]
theorem setB_name {n : Str} {locs : List Str} {b : Blk} (q : Pr) : (if q.name = n then { q with locs := locs, block := b } else q : Pr).name = q.name := by
  by_cases h : q.name = n
  · rw [if_pos h]
  · rw [if_neg h]
theorem setB_proc {G : Ga} {p : Pr} {locs : List Str} {b : Blk} (h : Uniq G.procs) (hp : p ∈ G.procs) : (G.setB p.name locs b).proc p.name = some { p with locs := locs, block := b } := by
  unfold Ga.setB Ga.proc
  dsimp only
  rw [find_map setB_name, show G.procs.find? (fun q => decide (q.name = p.name)) = some p from h.proc hp, Option.map_some, if_pos rfl]
theorem setB_uniq {G : Ga} {n : Str} {locs : List Str} {b : Blk} (h : Uniq G.procs) : Uniq (G.setB n locs b).procs := Uniq.map setB_name h
theorem setB_none {G : Ga} {n m : Str} {locs : List Str} {b : Blk} (h : G.proc m = none) : (G.setB n locs b).proc m = none := by
  unfold Ga.setB Ga.proc
  dsimp only
  rw [find_map setB_name, show G.procs.find? (fun q => decide (q.name = m)) = none from h]
  rfl
/-- a new block in a procedure: put and setB are one -/
theorem put_setB {G : Ga} {p : Pr} {b : Blk} (h : Uniq G.procs) (hp : p ∈ G.procs) : G.put { p with block := b } = G.setB p.name p.locs b := by
  refine Ga.ext rfl rfl rfl ?_
  show G.procs.map _ = G.procs.map _
  refine List.map_congr_left fun q hq => ?_
  by_cases e : q.name = p.name
  · rw [if_pos e, if_pos e, h q hq p hp e]
  · rw [if_neg e, if_neg e]
theorem setB_setB {G : Ga} {n : Str} {l1 l2 : List Str} {b1 b2 : Blk} : (G.setB n l1 b1).setB n l2 b2 = G.setB n l2 b2 := by
  refine Ga.ext rfl rfl rfl ?_
  show (G.procs.map _).map _ = G.procs.map _
  rw [List.map_map]
  refine List.map_congr_left fun q hq => ?_
  by_cases e : q.name = n <;> simp [e]
/-! ### sizes -/
structure GaSz (G : Ga) : Prop where
  n : G.procs.length ≤ 1000
  b : ∀ p ∈ G.procs, blF 12 12 p.block ∧ p.block.l.length ≤ 900
theorem PrF_.mono {k d j e : Nat} {p : Pr} (h : PrF_ k d p) (hk : k ≤ j) (hd : d ≤ e) : PrF_ j e p := ⟨h.name, h.locs, blF.mono hk h.block hd, h.res.mono hk⟩
theorem GaF.mono {k d j e : Nat} {G : Ga} (h : GaF k d G) (hk : k ≤ j) (hd : d ≤ e) : GaF j e G := ⟨h.vars, h.tabs, h.lots, fun p hp => (h.procs p hp).mono hk hd⟩
theorem GaF.setB {k d : Nat} {G : Ga} {n : Str} {locs : List Str} {b : Blk} (h : GaF k d G) (hl : ∀ x ∈ locs, nmB x = true) (hb : blF k d b) : GaF k d (G.setB n locs b) := by
  refine ⟨h.vars, h.tabs, h.lots, fun q hq => ?_⟩
  obtain ⟨p, hp, rfl⟩ := List.mem_map.mp hq
  have f := h.procs p hp
  by_cases e : p.name = n
  · rw [if_pos e]
    exact ⟨f.name, hl, hb, f.res⟩
  · rw [if_neg e]
    exact f
theorem ga_sizes {g : Ga} (h : GaOk g) : g.procs.length ≤ 2 ∧ 0 < g.procs.length := by
  have := congrArg List.length (show g.procs.map (·.name) = g.procs.map (·.name) from rfl)
  rcases h.procs with e | e
  · have := congrArg List.length e
    rw [List.length_map] at this
    rw [this]
    decide
  · have := congrArg List.length e
    rw [List.length_map] at this
    rw [this]
    decide
theorem GaSz.setB {G : Ga} {n : Str} {locs : List Str} {b : Blk} (h : GaSz G) (hb : blF 12 12 b) (hl : b.l.length ≤ 900) : GaSz (G.setB n locs b) := by
  refine ⟨by show (G.procs.map _).length ≤ 1000; rw [List.length_map]; exact h.n, fun q hq => ?_⟩
  obtain ⟨p, hp, rfl⟩ := List.mem_map.mp hq
  by_cases e : p.name = n
  · rw [if_pos e]
    exact ⟨hb, hl⟩
  · rw [if_neg e]
    exact h.b p hp
theorem GaSz.ofOk {g : Ga} (h : GaOk g) : GaSz g := by
  have s := ga_sizes h
  refine ⟨by omega, fun p hp => ?_⟩
  have f := (GaF.ofOk h).procs p hp
  have l := (h.proc p hp).len
  refine ⟨blF.mono (by decide) f.block (by decide), ?_⟩
  rw [Blk.len_l]
  omega
theorem proc_no {g : Ga} (h : GaOk g) {n : Str} (hn : n ≠ "p" ∧ n ≠ "r") : g.proc n = none := by
  refine find_no fun q hq => ?_
  have : q.name ∈ g.procs.map (·.name) := List.mem_map.mpr ⟨q, hq, rfl⟩
  intro e
  rw [e] at this
  rcases h.procs with z | z <;> rw [z] at this <;> simp [hn.1, hn.2] at this
/-! ### names of rows -/
theorem trip_at {K : PySem.W.Frag} {H : Hp} {ts : List (Str × Int × Int)} {xs : List V} (dd : DpAll K H xs (ts.map trip)) {i : Nat} {x : V} (hx : xs[i]? = some x) : ∃ (t : Str × Int × Int) (b : Addr), ts[i]? = some t ∧ x = .ref b ∧ SqT K H b [.str t.1, .int t.2.1, .int t.2.2] := by
  have hi := (List.getElem?_eq_some_iff.mp hx).1
  have lx : xs.length = ts.length := (DpAll.len dd).trans (List.length_map _)
  obtain ⟨t, et⟩ : ∃ t, ts[i]? = some t := ⟨ts[i]'(lx ▸ hi), List.getElem?_eq_getElem _⟩
  obtain ⟨v', ev, dt⟩ := DpAll.get dd (show (ts.map trip)[i]? = some (trip t) by rw [List.getElem?_map, et]; rfl)
  rw [hx] at ev
  cases ev
  obtain ⟨b, rfl, hb⟩ := trip_inv dt
  exact ⟨t, b, et, rfl, hb⟩
theorem names_next {ts : List (Str × Int × Int)} {i : Nat} {t : Str × Int × Int} (et : ts[i]? = some t) : ((ts.map (·.1)).take (i + 1)).map V.str = ((ts.map (·.1)).take i).map V.str ++ [V.str t.1] := by
  have e1 : (ts.map (·.1))[i]? = some t.1 := by rw [List.getElem?_map, et]; rfl
  rw [take_more e1, List.map_append]
  rfl
theorem names_all {K : PySem.W.Frag} {H : Hp} {ts : List (Str × Int × Int)} {xs : List V} (dd : DpAll K H xs (ts.map trip)) : (ts.map (·.1)).take xs.length = ts.map (·.1) := by
  have lx : xs.length = ts.length := (DpAll.len dd).trans (List.length_map _)
  rw [lx, ← List.length_map (f := (·.1)), List.take_length]
theorem names_len {ts : List (Str × Int × Int)} (h : ts.length ≤ 1000) (i : Nat) : (((ts.map (·.1)).take i).map V.str).length < sizeLine := by
  rw [List.length_map]
  exact Nat.lt_of_le_of_lt (Nat.le_trans (List.length_take_le' _ _) (by rw [List.length_map]; exact h)) (by decide)
theorem put_setL {G : Ga} {p : Pr} {b : Blk} {locs : List Str} (h : Uniq G.procs) (hp : p ∈ G.procs) : G.put { p with locs := locs, block := b } = G.setB p.name locs b := by
  refine Ga.ext rfl rfl rfl ?_
  show G.procs.map _ = G.procs.map _
  refine List.map_congr_left fun q hq => ?_
  by_cases e : q.name = p.name
  · rw [if_pos e, if_pos e, h q hq p hp e]
  · rw [if_neg e, if_neg e]
/-- the block that the law writes -/
def newB (b : Blk) (at_ : Nat) (s t : Stm) : Blk := Blk.of (b.l.take at_ ++ [s, t] ++ b.l.drop at_)
theorem newB_l (b : Blk) (at_ : Nat) (s t : Stm) : (newB b at_ s t).l = b.l.take at_ ++ [s, t] ++ b.l.drop at_ := Blk.l_of _
theorem newB_at {b : Blk} {at_ : Nat} {s t : Stm} (h : at_ ≤ b.l.length) : (newB b at_ s t).l[at_]? = some s ∧ (newB b at_ s t).l[at_ + 1]? = some t := by
  rw [newB_l]
  have hl : (b.l.take at_).length = at_ := by rw [List.length_take, Nat.min_eq_left h]
  constructor
  · rw [List.append_assoc, List.getElem?_append_right (by omega), hl, Nat.sub_self]
    rfl
  · rw [List.append_assoc, List.getElem?_append_right (by omega), hl, Nat.add_sub_cancel_left]
    rfl
theorem newB_len {b : Blk} {at_ : Nat} {s t : Stm} (h : at_ ≤ b.l.length) : (newB b at_ s t).l.length = b.l.length + 2 := by
  rw [newB_l]
  simp only [List.length_append, List.length_take, List.length_drop, List.length_cons, List.length_nil]
  omega
theorem newB_fit {b : Blk} {at_ : Nat} {s t : Stm} {k d : Nat} (hb : blF k d b) (hs : stF k d s) (ht : stF k d t) : blF k d (newB b at_ s t) := by
  refine blF.of fun x hx => ?_
  rcases List.mem_append.mp hx with hx | hx
  · rcases List.mem_append.mp hx with hx | hx
    · exact blF.l hb x (List.mem_of_mem_take hx)
    · simp only [List.mem_cons, List.not_mem_nil, or_false] at hx
      rcases hx with rfl | rfl
      · exact hs
      · exact ht
  · exact blF.l hb x (List.mem_of_mem_drop hx)
theorem cut_some (xs : List V) (j k : Nat) : cutV xs (some (j : Int)) (some (k : Int)) = (xs.take k).drop j := by
  unfold cutV
  have e1 : HT.sIx xs.length 0 (some (j : Int)) = min j xs.length := by
    have : ¬ ((j : Int) < 0) := by omega
    simp [HT.sIx, this]
    try omega
  have e2 : HT.sIx xs.length xs.length (some (k : Int)) = min k xs.length := by
    have : ¬ ((k : Int) < 0) := by omega
    simp [HT.sIx, this]
    try omega
  rw [e1, e2]
  apply List.ext_getElem?
  intro n
  simp only [List.getElem?_take, List.getElem?_drop]
  by_cases h : j ≤ xs.length
  · rw [Nat.min_eq_left h]
    by_cases h2 : j + n < k
    · rw [if_pos h2]
      by_cases h3 : n < min k xs.length - j
      · rw [if_pos h3]
      · rw [if_neg h3, List.getElem?_eq_none (by omega)]
    · rw [if_neg h2, if_neg (by omega)]
  · rw [if_neg (by omega)]
    split
    · rw [List.getElem?_eq_none (by omega)]
    · rfl
/-- a game of the laws, whose procedures may have been changed -/
structure GI (G : Ga) : Prop where
  s : GaSz G
  f : GaF 11 11 G
  u : Uniq G.procs
  g : ∀ p ∈ G.procs, ("g" : Str) ∈ p.locs
  v : G.vars.length ≤ 10
theorem GI.ofOk {G : Ga} (h : GaOk G) : GI G := by
  refine ⟨.ofOk h, (GaF.ofOk h).mono (by decide) (by decide), .ofOk h, fun p hp => ?_, ?_⟩
  · rcases (h.proc p hp).locs with e | e <;> rw [e] <;> exact List.mem_cons_self ..
  · have : (G.vars.map (·.1)).length ≤ 2 := by rcases h.vars with e | e | e <;> rw [e] <;> decide
    rw [List.length_map] at this
    omega
end Gm
set_option Elab.async false
set_option linter.all false
set_option maxRecDepth 100000
set_option maxHeartbeats 4000000
namespace Toy
open PySem L2 NdefX Gm
open Mine hiding same_new
theorem units65 {k : Nat} {A : Around} (hr : Room k A) : A.units + 65 < cLine := by have := hr.un; omega
/-- a step in the heap: its parts -/
def StA (K : PySem.W.Frag) (H : Hp) (v : V) (xs : List V) : Prop := ∃ a : Addr, v = .ref a ∧ SqT K H a xs
theorem StA.same {K : PySem.W.Frag} {H H' : Hp} {v : V} {xs : List V} (h : StA K H v xs) (s : Same H H') : StA K H' v xs := let ⟨a, e, h⟩ := h; ⟨a, e, sqT_mono s h⟩
/-- BadStep with a rule goes out -/
def Rf (B : Addr) (r : Str) (H : Hp) (E : XK) : Prop := ∀ (d : Addr) (H' : Hp), Same H H' → H' d = some (.xd [("rule", .str r)]) → E (.ref B) (some d) H'
theorem Rf.same {B : Addr} {r : Str} {H H' : Hp} {E : XK} (h : Rf B r H E) (s : Same H H') : Rf B r H' E := fun d H2 m e => h d H2 (s.trans m) e
def spGInit (C : Addr) : Sp := fun vs H Q _ => ∃ (p dx : Addr) (a b c d : V), vs = [.ref p, a, b, c, d] ∧ H p = some (.ins C dx []) ∧ ∀ H', H' p = some (.ins C dx (gf a b c d)) → (∀ x o, H x = some o → x ≠ p → H' x = some o) → Q .non H'
def spGEq (K : PySem.W.Frag) (C : Addr) : Sp := fun vs H Q _ => ∃ (g h : Addr) (G F : Ga) (k d k' d' : Nat), vs = [.ref g, .ref h] ∧ GmD K C H g G ∧ GmD K C H h F ∧ GaF k d G ∧ GaF k' d' F ∧ k + 2 * d ≤ 59 ∧ k' + 2 * d' ≤ 59 ∧ ∀ b : Bool, (b = true ↔ G = F) → Q (.bl b) H
def spGProc (K : PySem.W.Frag) (C : Addr) : Sp := fun vs H Q _ => ∃ (g : Addr) (n : Str) (G : Ga), vs = [.ref g, .str n] ∧ GmD K C H g G ∧ (∀ p, G.proc n = some p → ∀ u, Dp K H u p.d → Q u H) ∧ (G.proc n = none → Q .non H)
def spReq (K : PySem.W.Frag) (B : Addr) : Sp := fun vs H Q E => ∃ (b : Bool) (v : V) (r : Str) (rest : List V), vs = [.bl b, v] ∧ StA K H v (.str r :: rest) ∧ r.length ≤ 1000 ∧ (b = true → Q .non H) ∧ (b = false → Rf B r H E)
def spProcOf (K : PySem.W.Frag) (C B : Addr) : Sp := fun vs H Q E => ∃ (g : Addr) (v : V) (G : Ga) (r n : Str) (rest : List V), vs = [.ref g, v] ∧ GmD K C H g G ∧ StA K H v (.str r :: .str n :: rest) ∧ r.length ≤ 1000 ∧
  (∀ p, G.proc n = some p → ∀ u, Dp K H u p.d → Q u H) ∧ (G.proc n = none → Rf B r H E)
def spStmOf (K : PySem.W.Frag) (C B : Addr) : Sp := fun vs H Q E => ∃ (g : Addr) (v : V) (G : Ga) (r n : Str) (k : Int) (rest : List V), vs = [.ref g, v] ∧ GmD K C H g G ∧ StA K H v (.str r :: .str n :: .int k :: rest) ∧ r.length ≤ 1000 ∧
  (∀ p j s, Ga.At G n k p j s → ∀ (t : Addr) (u z : V) (H' : Hp), Same H H' → SqT K H' t [u, z] → Dp K H' u p.d → Dp K H' z s.d → Q (.ref t) H') ∧ ((∀ p j s, ¬ Ga.At G n k p j s) → Rf B r H E)
def spPairOf (K : PySem.W.Frag) (C B : Addr) : Sp := fun vs H Q E => ∃ (g : Addr) (v : V) (G : Ga) (r n : Str) (k : Int) (rest : List V), vs = [.ref g, v] ∧ GmD K C H g G ∧ StA K H v (.str r :: .str n :: .int k :: rest) ∧ r.length ≤ 1000 ∧
  (∀ p j s s', Ga.At G n k p j s → p.block.l[j + 1]? = some s' → ∀ (t : Addr) (u z y : V) (H' : Hp), Same H H' → SqT K H' t [u, z, y] → Dp K H' u p.d → Dp K H' z s.d → Dp K H' y s'.d → Q (.ref t) H') ∧
  ((∀ p j s s', ¬ (Ga.At G n k p j s ∧ p.block.l[j + 1]? = some s')) → Rf B r H E)
def spWith (K : PySem.W.Frag) (C : Addr) : Sp := fun vs H Q _ => ∃ (g : Addr) (v : V) (G : Ga) (p : Pr), vs = [.ref g, v] ∧ GmD K C H g G ∧ Dp K H v p.d ∧ G.procs.length ≤ 1000 ∧ ∀ (g' : Addr) (H' : Hp), Same H H' → GmD K C H' g' (G.put p) → Q (.ref g') H'
def spRepl (K : PySem.W.Frag) (C : Addr) : Sp := fun vs H Q _ => ∃ (g : Addr) (v u : V) (at_ many : Nat) (G : Ga) (p : Pr) (ss : List Stm), vs = [.ref g, v, .int (at_ : Int), .int (many : Int), u] ∧ GmD K C H g G ∧ Dp K H v p.d ∧ Dp K H u (.tuple (ss.map Stm.d)) ∧ G.procs.length ≤ 1000 ∧ p.block.l.length + ss.length ≤ 1000 ∧
  ∀ (g' : Addr) (H' : Hp), Same H H' → GmD K C H' g' (G.put (p.repl at_ many ss)) → Q (.ref g') H'
section
variable {P : Program} {w : World} {K : PySem.W.Frag} {mg : Str → Option Value} {base : Heap} {file : Str}
theorem ok_ginit (T : Txt K mg file) : FnOk P w K mg base CX0 1 T.a_Game_init T.fd_Game_init ["self", "variables", "tables", "lots", "procs"] (spGInit T.C_Game) := by
  refine T.F_Game_init.ok sc_Game_init (fun vs H Q E h => ?_) (fun cdv A outer s H vs Q E hr h => ?_)
  · obtain ⟨p, dx, a, b, c, d, rfl, _⟩ := h
    rfl
  obtain ⟨p, dx, a, b, c, d, rfl, hp, k⟩ := h
  refine ⟨_, (pss_cons (ps_fld (pv 0) (pv 1) rfl)
    (pss_cons (ps_fld (pv 0) (pv 2) rfl)
    (pss_cons (ps_fld (pv 0) (pv 3) rfl)
    (pss_one (ps_fld (pv 0) (pv 4) rfl))))), ?_⟩
  refine ⟨_, rfl, _, rfl, p, T.C_Game, dx, [], rfl, hp, T.cl_Game, T.na_Game_variables, (by show 0 < 1000; decide), ?_⟩
  refine ⟨_, rfl, _, rfl, p, T.C_Game, dx, _, rfl, upd_same, T.cl_Game, T.na_Game_tables, (by show 1 < 1000; decide), ?_⟩
  refine ⟨_, rfl, _, rfl, p, T.C_Game, dx, _, rfl, upd_same, T.cl_Game, T.na_Game_lots, (by show 2 < 1000; decide), ?_⟩
  refine ⟨_, rfl, _, rfl, p, T.C_Game, dx, _, rfl, upd_same, T.cl_Game, T.na_Game_procs, (by show 3 < 1000; decide), ?_⟩
  refine k _ upd_same fun x o e hx => ?_
  rw [upd_ne hx, upd_ne hx, upd_ne hx, upd_ne hx]
  exact e
theorem fit64 {n : Nat} {d : PyData} (h : Fit n d) (l : n ≤ 64) : SeqAt.shaped d = true := h.shaped l
theorem ok_geq (T : Txt K mg file) : FnOk P w K mg base CX0 1 T.a_Game_eq T.fd_Game_eq ["self", "other"] (spGEq K T.C_Game) := by
  refine T.F_Game_eq.ok sc_Game_eq (fun vs H Q E h => ?_) (fun cdv A outer s H vs Q E hr h => ?_)
  · obtain ⟨g, h, G, F, k, d, k', d', rfl, _⟩ := h
    rfl
  obtain ⟨g, h, G, F, k, d, k', d', rfl, ⟨dx, a1, a2, a3, a4, hg, ga1, ga2, ga3, ga4⟩, ⟨dy, b1, b2, b3, b4, hh, gb1, gb2, gb3, gb4⟩, fG, fF, l1, l2, q⟩ := h
  refine ⟨_, (pss_one (ps_ret (pe_and (pe_callB call_isi (by rfl) T.z_isinstance (by decide +kernel) (pa_cons (pv 1) (pa_cons (pe_glob (v := .ref T.C_Game) rfl T.g_Game rfl) pa_nil))) (pe_and (pe_cmpR (op_eqD hr.units) (pe_fld (pv 0) rfl) (pe_fld (pv 1) rfl) (nomark _)) (pe_and (pe_cmpR (op_eqD hr.units) (pe_fld (pv 0) rfl) (pe_fld (pv 1) rfl) (nomark _)) (pe_and (pe_cmpR (op_eqD hr.units) (pe_fld (pv 0) rfl) (pe_fld (pv 1) rfl) (nomark _)) (pe_one (pe_cmpR (op_eqD hr.units) (pe_fld (pv 0) rfl) (pe_fld (pv 1) rfl) (nomark _))))))))), ?_⟩
  refine ⟨_, rfl, _, _, _, _, true, rfl, .own _, .base (.ins hh T.cl_Game T.ia_Game T.o_n T.o_t T.im_Game), T.ik_Game, true, rfl, iteT ?_⟩
  have c1 := fit_trips (n := 0) fG.vars
  have c2 := fit_trips (n := 0) fG.tabs
  have c3 := fit_trips (n := 0) fG.lots
  have c4 := fit_procs fG.procs
  have e1 := fit_trips (n := 0) fF.vars
  have e2 := fit_trips (n := 0) fF.tabs
  have e3 := fit_trips (n := 0) fF.lots
  have e4 := fit_procs fF.procs
  refine ⟨_, rfl, g, _, dx, _, _, rfl, hg, T.cl_Game, T.na_Game_variables, gf_variables _ _ _ _, _, rfl, h, _, dy, _, _, rfl, hh, T.cl_Game, T.na_Game_variables, gf_variables _ _ _ _, ?_⟩
  refine ⟨_, _, ga1, gb1, fit64 c1 (by omega), fit64 e1 (by omega), _, rfl, ?_⟩
  by_cases z1 : G.vars = F.vars
  case neg => exact ite_no (fun z => z1 (trips_inj ((eqv_iff c1.1 e1.1).mp z))) (q _ ⟨fun z => Bool.noConfusion z, fun z => absurd (congrArg Ga.vars z) z1⟩)
  refine ite_yes ((eqv_iff c1.1 e1.1).mpr (by rw [z1])) ?_
  refine ⟨_, rfl, g, _, dx, _, _, rfl, hg, T.cl_Game, T.na_Game_tables, gf_tables _ _ _ _, _, rfl, h, _, dy, _, _, rfl, hh, T.cl_Game, T.na_Game_tables, gf_tables _ _ _ _, ?_⟩
  refine ⟨_, _, ga2, gb2, fit64 c2 (by omega), fit64 e2 (by omega), _, rfl, ?_⟩
  by_cases z2 : G.tabs = F.tabs
  case neg => exact ite_no (fun z => z2 (trips_inj ((eqv_iff c2.1 e2.1).mp z))) (q _ ⟨fun z => Bool.noConfusion z, fun z => absurd (congrArg Ga.tabs z) z2⟩)
  refine ite_yes ((eqv_iff c2.1 e2.1).mpr (by rw [z2])) ?_
  refine ⟨_, rfl, g, _, dx, _, _, rfl, hg, T.cl_Game, T.na_Game_lots, gf_lots _ _ _ _, _, rfl, h, _, dy, _, _, rfl, hh, T.cl_Game, T.na_Game_lots, gf_lots _ _ _ _, ?_⟩
  refine ⟨_, _, ga3, gb3, fit64 c3 (by omega), fit64 e3 (by omega), _, rfl, ?_⟩
  by_cases z3 : G.lots = F.lots
  case neg => exact ite_no (fun z => z3 (trips_inj ((eqv_iff c3.1 e3.1).mp z))) (q _ ⟨fun z => Bool.noConfusion z, fun z => absurd (congrArg Ga.lots z) z3⟩)
  refine ite_yes ((eqv_iff c3.1 e3.1).mpr (by rw [z3])) ?_
  refine ⟨_, rfl, g, _, dx, _, _, rfl, hg, T.cl_Game, T.na_Game_procs, gf_procs _ _ _ _, _, rfl, h, _, dy, _, _, rfl, hh, T.cl_Game, T.na_Game_procs, gf_procs _ _ _ _, ?_⟩
  refine ⟨_, _, ga4, gb4, fit64 c4 (by omega), fit64 e4 (by omega), q _ ?_⟩
  refine (eqv_iff c4.1 e4.1).trans ⟨fun z => Ga.ext z1 z2 z3 (procs_inj z), fun z => by rw [z]⟩
theorem ok_gproc (T : Txt K mg file) : FnOk P w K mg base CX0 1 T.a_Game_proc T.fd_Game_proc ["self", "name"] (spGProc K T.C_Game) := by
  refine T.F_Game_proc.ok sc_Game_proc (fun vs H Q E h => ?_) (fun cdv A outer s H vs Q E hr h => ?_)
  · obtain ⟨g, n, G, rfl, _⟩ := h
    rfl
  obtain ⟨g, n, G, rfl, ⟨dx, a, b, c, d, hg, _, _, _, dd⟩, k1, k0⟩ := h
  obtain ⟨pa, xs, rfl, hpa, dxs⟩ := dp_inv dd
  have lx : xs.length = G.procs.length := (DpAll.len dxs).trans (List.length_map _)
  refine ⟨_, (pss_cons (ps_for PassesOwn.never rfl (pi_tup (pe_fld (pv 0) rfl)) (pg_name (i := 2) sc_Game_proc.nd rfl (Or.inl rfl))
      (pss_one (ps_if (pt_cmpR op_eq (pe_ix ix_tup (pv 2) pe_int (fun _ _ => rfl)) (pv 1) (nomark _))
      (pss_one (ps_ret (pv 2)))
      pss_nil)))
    (pss_one (ps_ret pe_non))), ?_⟩
  refine ⟨_, rfl, g, _, dx, _, _, rfl, hg, T.cl_Game, T.na_Game_procs, gf_procs _ _ _ _, pa, rfl, ⟨_, hpa⟩, ?_⟩
  refine for_tup (K := K) (a := pa) (xs := xs) (fun i σ H' => H' = H ∧ (∃ y, σ = [some (.ref g), some (.str n), y]) ∧ ∀ q ∈ G.procs.take i, q.name ≠ n) ⟨rfl, ⟨none, rfl⟩, by simp⟩ (fun i σ H' _ h => by rw [h.1]; exact hpa) ?_ ?_
  · rintro i v σ H' hv ⟨rfl, ⟨y, rfl⟩, hn⟩
    have hi := (List.getElem?_eq_some_iff.mp hv).1
    obtain ⟨p, ep⟩ : ∃ p, G.procs[i]? = some p := ⟨G.procs[i]'(lx ▸ hi), List.getElem?_eq_getElem _⟩
    obtain ⟨v', ev, dv⟩ := DpAll.get dxs (show (G.procs.map Pr.d)[i]? = some p.d by rw [List.getElem?_map, ep]; rfl)
    rw [hv] at ev
    cases ev
    have dv0 := dv
    obtain ⟨t, la, ba, r, bs, rfl, ht, _⟩ := pr_inv dv
    refine ⟨_, rfl, t, _, 0, V.str p.name, rfl, rfl, ht, atI_nat (j := 0) rfl, _, rfl, rfl, _, rfl, ite2 (fun z => ?_) (fun z => ?_)⟩
    · have z' : p.name = n := V.str.inj (of_decide_eq_true z)
      exact ⟨_, rfl, k1 p (find_at hn ep z') _ dv0⟩
    · have z' : ¬ p.name = n := fun y => z (decide_eq_true (congrArg V.str y))
      refine ⟨rfl, ⟨_, rfl⟩, ?_⟩
      rw [take_more ep]
      intro q hq
      rcases List.mem_append.mp hq with hq | hq
      · exact hn q hq
      · rw [List.mem_singleton.mp hq]
        exact z'
  · rintro σ H' ⟨rfl, ⟨y, rfl⟩, hn⟩
    rw [lx, List.take_length] at hn
    exact k0 (find_no hn)
theorem ok_require (hP : PrF P file) (T : Txt K mg file) : FnOk P w K mg base (L2.CX P w) 3 T.a_require T.fd_require ["holds", "step"] (spReq K T.C_BadStep) := by
  refine T.F_require.okX sc_require (fun vs H Q E h => ?_) (fun cdv A outer s H vs Q E hr h => ?_)
  · obtain ⟨b, v, r, rest, rfl, _⟩ := h
    rfl
  obtain ⟨b, v, r, rest, rfl, ⟨a, rfl, ha⟩, hr1, q1, q2⟩ := h
  refine ⟨_, (pss_one (ps_if (pt_not (pt_val (pv 0)))
      (pss_one (ps_raise rfl (takes_of rfl rfl rfl rfl) (pmk_err T.E_BadStep (err_BadStep (k := 0) T.E_BadStep hP) T.b_BadStep_init (hr.mono (by decide)) rfl T.g_BadStep (pa_cons (pe_ix ix_tup (pv 1) pe_int (fun _ _ => rfl)) pa_nil))))
      pss_nil)), ?_⟩
  cases b with
  | true => exact ⟨_, rfl, true, rfl, iteF (q1 rfl)⟩
  | false =>
    refine ⟨_, rfl, false, rfl, iteT ?_⟩
    refine ⟨_, rfl, a, _, 0, _, rfl, rfl, ha, atI_nat (j := 0) rfl, _, rfl, ⟨r, rfl, hr1⟩, fun d hd => ?_⟩
    exact q2 rfl d _ (same_new hd _) upd_same
theorem ok_procof (hP : PrF P file) (T : Txt K mg file) : FnOk P w K mg base (L2.CX P w) 4 T.a_proc_of T.fd_proc_of ["game", "step"] (spProcOf K T.C_Game T.C_BadStep) := by
  have G_Game_proc : FnOk P w K mg base CX0 1 T.a_Game_proc T.fd_Game_proc ["self", "name"] (spGProc K T.C_Game) := ok_gproc T
  have G_require : FnOk P w K mg base (L2.CX P w) 3 T.a_require T.fd_require ["holds", "step"] (spReq K T.C_BadStep) := ok_require hP T
  refine T.F_proc_of.okX sc_proc_of (fun vs H Q E h => ?_) (fun cdv A outer s H vs Q E hr h => ?_)
  · obtain ⟨g, v, G, r, n, rest, rfl, _⟩ := h
    rfl
  obtain ⟨g, v, G, r, n, rest, rfl, hg, ⟨a, rfl, ha⟩, hr1, q1, q2⟩ := h
  refine ⟨_, (pss_cons (ps_set (i := 2) sc_proc_of.nd rfl (Or.inl rfl) (pe_meth (pv 0) T.cl_Game T.m_Game_proc G_Game_proc (hr.mono (by decide)) T.b_Game_proc .nil pass0 (pa_cons (pe_ix ix_tup (pv 1) pe_int (fun _ _ => rfl)) pa_nil)))
    (pss_cons (ps_expr (pe_call G_require (hr.mono (by decide)) rfl T.g_require T.k_require T.b_require .nil (passes_call (takes_of rfl rfl rfl rfl) (fun _ _ _ _ z => z)) (pa_cons (pe_cmpR op_notN (pv 2) pe_non (nomark _)) (pa_cons (pv 1) pa_nil))))
    (pss_one (ps_ret (pv 2))))), ?_⟩
  obtain ⟨dx, x1, x2, x3, x4, ob, _⟩ := id hg
  refine ⟨_, rfl, g, dx, _, rfl, ob, gf_proc _ _ _ _, _, rfl, a, _, 1, _, rfl, rfl, ha, atI_nat (j := 1) rfl, g, n, G, rfl, hg, fun p hp u hu => ?_, fun hp => ?_⟩
  · obtain ⟨ua, _, _, _, _, rfl, _⟩ := pr_inv hu
    refine ⟨_, rfl, rfl, _, rfl, true, .ref a, r, _, rfl, ⟨a, rfl, ha⟩, hr1, fun _ => ?_, fun z => Bool.noConfusion z⟩
    exact ⟨_, rfl, q1 p hp _ hu⟩
  · refine ⟨_, rfl, rfl, _, rfl, false, .ref a, r, _, rfl, ⟨a, rfl, ha⟩, hr1, fun z => Bool.noConfusion z, fun _ => q2 hp⟩
theorem ok_stmof (hP : PrF P file) (T : Txt K mg file) : FnOk P w K mg base (L2.CX P w) 5 T.a_statement_of T.fd_statement_of ["game", "step"] (spStmOf K T.C_Game T.C_BadStep) := by
  have G_proc_of : FnOk P w K mg base (L2.CX P w) 4 T.a_proc_of T.fd_proc_of ["game", "step"] (spProcOf K T.C_Game T.C_BadStep) := ok_procof hP T
  have G_require : FnOk P w K mg base (L2.CX P w) 3 T.a_require T.fd_require ["holds", "step"] (spReq K T.C_BadStep) := ok_require hP T
  refine T.F_statement_of.okX sc_statement_of (fun vs H Q E h => ?_) (fun cdv A outer s H vs Q E hr h => ?_)
  · obtain ⟨g, v, G, r, n, k, rest, rfl, _⟩ := h
    rfl
  obtain ⟨g, v, G, r, n, k, rest, rfl, hg, ⟨a, rfl, ha⟩, hr1, q1, q2⟩ := h
  refine ⟨_, (pss_cons (ps_set (i := 2) sc_statement_of.nd rfl (Or.inl rfl) (pe_call G_proc_of (hr.mono (by decide)) rfl T.g_proc_of T.k_proc_of T.b_proc_of .nil (passes_call (takes_of rfl rfl rfl rfl) (fun _ _ _ _ z => z)) (pa_cons (pv 0) (pa_cons (pv 1) pa_nil))))
    (pss_cons (ps_expr (pe_call G_require (hr.mono (by decide)) rfl T.g_require T.k_require T.b_require .nil (passes_call (takes_of rfl rfl rfl rfl) (fun _ _ _ _ z => z)) (pa_cons (pe_chain op_le op_lt pe_int (pe_ix ix_tup (pv 1) pe_int (fun _ _ => rfl)) (pe_callB call_len_seq (by rfl) T.z_len (by decide +kernel) (pa_cons (pe_ix ix_tup (pv 2) pe_int (fun _ _ => rfl)) pa_nil))) (pa_cons (pv 1) pa_nil))))
    (pss_one (ps_ret (pe_tup (pa_cons (pv 2) (pa_cons (pe_ix ix_tup (pe_ix ix_tup (pv 2) pe_int (fun _ _ => rfl)) (pe_ix ix_tup (pv 1) pe_int (fun _ _ => rfl)) (fun _ _ => rfl)) pa_nil))))))), ?_⟩
  refine ⟨_, rfl, _, rfl, g, .ref a, G, r, n, _, rfl, hg, ⟨a, rfl, ha⟩, hr1, fun p hp u hu => ?_, fun hp => q2 fun p j s h => by rw [h.1] at hp; cases hp⟩
  have hu0 := hu
  obtain ⟨ua, la, ba, rv, bs, rfl, hua, hla, hba, dbs, _⟩ := pr_inv hu
  have lb : bs.length = p.block.l.length := (DpAll.len dbs).trans (List.length_map _)
  refine ⟨_, rfl, a, _, 2, _, rfl, rfl, ha, atI_nat (j := 2) rfl, _, _, rfl, rfl, _, rfl, ?_⟩
  have no : ¬ (0 ≤ k ∧ k < (bs.length : Int)) → Rf T.C_BadStep r H E := fun z => q2 fun p' j s ⟨h1, h2, h3⟩ => by
    rw [hp] at h1
    cases h1
    have := (List.getElem?_eq_some_iff.mp h3).1
    exact z ⟨by omega, by omega⟩
  by_cases c1 : 0 ≤ k
  case neg =>
    refine ite_no (fun z => c1 (of_decide_eq_true z)) ?_
    exact ⟨_, rfl, false, .ref a, r, _, rfl, ⟨a, rfl, ha⟩, hr1, fun z => Bool.noConfusion z, fun _ => no fun z => c1 z.1⟩
  refine ite_yes (decide_eq_true c1) ?_
  refine ⟨_, rfl, ua, _, 4, _, rfl, rfl, hua, atI_nat (j := 4) rfl, ba, bs, rfl, .inr hba, _, _, rfl, rfl, _, rfl, decide (k < (bs.length : Int)), .ref a, r, _, rfl, ⟨a, rfl, ha⟩, hr1, fun z => ?_, fun z => no fun y => of_decide_eq_false z y.2⟩
  have c2 := of_decide_eq_true z
  obtain ⟨j, rfl⟩ := Int.eq_ofNat_of_zero_le c1
  have hj : j < bs.length := by omega
  obtain ⟨s, es⟩ : ∃ s, p.block.l[j]? = some s := ⟨p.block.l[j]'(by rw [← lb]; exact hj), List.getElem?_eq_getElem _⟩
  obtain ⟨sv, ev, dv⟩ := DpAll.get dbs (show (p.block.l.map Stm.d)[j]? = some s.d by rw [List.getElem?_map, es]; rfl)
  refine ⟨_, rfl, _, rfl, ua, _, 4, _, rfl, rfl, hua, atI_nat (j := 4) rfl, _, rfl, a, _, 2, _, rfl, rfl, ha, atI_nat (j := 2) rfl, ba, bs, _, _, rfl, rfl, hba, atI_nat ev, by show 2 ≤ sizeLine; decide, fun t ht => ?_⟩
  have m := same_new ht (.tup [V.ref ua, sv])
  exact q1 p j s ⟨hp, rfl, es⟩ t _ _ _ m (SqT.of upd_same) (dp_mono m _ _ hu0) (dp_mono m _ _ dv)
theorem ok_pairof (hP : PrF P file) (T : Txt K mg file) : FnOk P w K mg base (L2.CX P w) 6 T.a_pair_of T.fd_pair_of ["game", "step"] (spPairOf K T.C_Game T.C_BadStep) := by
  have G_statement_of : FnOk P w K mg base (L2.CX P w) 5 T.a_statement_of T.fd_statement_of ["game", "step"] (spStmOf K T.C_Game T.C_BadStep) := ok_stmof hP T
  have G_require : FnOk P w K mg base (L2.CX P w) 3 T.a_require T.fd_require ["holds", "step"] (spReq K T.C_BadStep) := ok_require hP T
  refine T.F_pair_of.okX sc_pair_of (fun vs H Q E h => ?_) (fun cdv A outer s H vs Q E hr h => ?_)
  · obtain ⟨g, v, G, r, n, k, rest, rfl, _⟩ := h
    rfl
  obtain ⟨g, v, G, r, n, k, rest, rfl, hg, ⟨a, rfl, ha⟩, hr1, q1, q2⟩ := h
  refine ⟨_, (pss_cons (ps_asg (pe_call G_statement_of (hr.mono (by decide)) rfl T.g_statement_of T.k_statement_of T.b_statement_of .nil (passes_call (takes_of rfl rfl rfl rfl) (fun _ _ _ _ z => z)) (pa_cons (pv 0) (pa_cons (pv 1) pa_nil))) (pg_tup rfl (pgs_cons (pg_name (i := 2) sc_pair_of.nd rfl (Or.inl rfl)) (pgs_cons (pg_name (i := 3) sc_pair_of.nd rfl (Or.inl rfl)) pgs_nil))))
    (pss_cons (ps_expr (pe_call G_require (hr.mono (by decide)) rfl T.g_require T.k_require T.b_require .nil (passes_call (takes_of rfl rfl rfl rfl) (fun _ _ _ _ z => z)) (pa_cons (pe_cmpR op_lt (pe_op op_add (pe_ix ix_tup (pv 1) pe_int (fun _ _ => rfl)) pe_int) (pe_callB call_len_seq (by rfl) T.z_len (by decide +kernel) (pa_cons (pe_ix ix_tup (pv 2) pe_int (fun _ _ => rfl)) pa_nil)) (nomark _)) (pa_cons (pv 1) pa_nil))))
    (pss_one (ps_ret (pe_tup (pa_cons (pv 2) (pa_cons (pv 3) (pa_cons (pe_ix ix_tup (pe_ix ix_tup (pv 2) pe_int (fun _ _ => rfl)) (pe_op op_add (pe_ix ix_tup (pv 1) pe_int (fun _ _ => rfl)) pe_int) (fun _ _ => rfl)) pa_nil)))))))), ?_⟩
  refine ⟨_, rfl, _, rfl, g, .ref a, G, r, n, k, _, rfl, hg, ⟨a, rfl, ha⟩, hr1, fun p j s hat t u z H1 m1 ht hu hz => ?_, fun hp => q2 fun p j s s' h => hp p j s h.1⟩
  have hu0 := hu
  obtain ⟨ua, la, ba, rv, bs, rfl, hua, hla, hba, dbs, _⟩ := pr_inv hu
  have lb : bs.length = p.block.l.length := (DpAll.len dbs).trans (List.length_map _)
  obtain ⟨hp, rfl, es⟩ := hat
  have ha1 := sqT_mono m1 ha
  refine ⟨t, _, rfl, ht, rfl, _, _, rfl, _, _, rfl, rfl, ?_⟩
  refine ⟨_, rfl, a, _, 2, _, rfl, rfl, ha1, atI_nat (j := 2) rfl, _, _, rfl, rfl, _, rfl, ua, _, 4, _, rfl, rfl, hua, atI_nat (j := 4) rfl, ba, bs, rfl, .inr hba, _, _, rfl, rfl, _, rfl, decide (((j : Nat) : Int) + 1 < (bs.length : Int)), .ref a, r, _, rfl, ⟨a, rfl, ha1⟩, hr1, fun c => ?_, fun c => ?_⟩
  · have c2 := of_decide_eq_true c
    have hj : j + 1 < bs.length := by omega
    obtain ⟨s', es'⟩ : ∃ s', p.block.l[j + 1]? = some s' := ⟨p.block.l[j + 1]'(by rw [← lb]; exact hj), List.getElem?_eq_getElem _⟩
    obtain ⟨sv, ev, dv⟩ := DpAll.get dbs (show (p.block.l.map Stm.d)[j + 1]? = some s'.d by rw [List.getElem?_map, es']; rfl)
    refine ⟨_, rfl, _, rfl, _, rfl, ua, _, 4, _, rfl, rfl, hua, atI_nat (j := 4) rfl, _, rfl, a, _, 2, _, rfl, rfl, ha1, atI_nat (j := 2) rfl, _, _, rfl, rfl, ba, bs, _, _, rfl, rfl, hba, atI_nat (j := j + 1) ev, by show 3 ≤ sizeLine; decide, fun t' ht' => ?_⟩
    have m := same_new ht' (.tup [V.ref ua, z, sv])
    exact q1 p j s s' ⟨hp, rfl, es⟩ es' t' _ _ _ _ (m1.trans m) (SqT.of upd_same) (dp_mono m _ _ hu0) (dp_mono m _ _ hz) (dp_mono m _ _ dv)
  · refine (q2 fun p' j' s s' h => ?_).same m1
    obtain ⟨⟨h1, h2, h3⟩, h4⟩ := h
    rw [hp] at h1
    cases h1
    have := (List.getElem?_eq_some_iff.mp h4).1
    have c2 := of_decide_eq_false c
    omega
end
end Toy
set_option Elab.async false
set_option linter.all false
set_option maxRecDepth 100000
set_option maxHeartbeats 4000000
namespace Toy
open PySem L2 NdefX Gm
open Mine hiding same_new
def spEv (K : PySem.W.Frag) (k : Nat) : Sp := fun vs H Q _ => ∃ (v : V) (e : Ex), vs = [v] ∧ Dp K H v e.d ∧ exF k e ∧ k ≤ 12 ∧ ∀ (L : Addr) (us : List V) (H' : Hp), H L = none → Same H H' → H' L = some (.lst us) → DpAll K H' us (e.subs.map Ex.d) → Q (.ref L) H'
def spExReads (K : PySem.W.Frag) (k : Nat) : Sp := fun vs H Q _ => ∃ (v : V) (e : Ex), vs = [v] ∧ Dp K H v e.d ∧ exF k e ∧ k ≤ 12 ∧ ∀ (L : Addr) (us : List V) (H' : Hp), H L = none → Same H H' → H' L = some (.lst us) → DpAll K H' us (e.reads.map plD) → Q (.ref L) H'
def spReadsL (K : PySem.W.Frag) (k : Nat) : Sp := fun vs H Q _ => ∃ (v : V) (e : Ex) (x : Str), vs = [v, .str x] ∧ Dp K H v e.d ∧ exF k e ∧ k ≤ 12 ∧ nmB x = true ∧ ∀ (b : Bool) (H' : Hp), (b = true ↔ (("local" : Str), x) ∈ e.reads) → Same H H' → Q (.bl b) H'
def spIsShift (K : PySem.W.Frag) (k : Nat) : Sp := fun vs H Q _ => ∃ (v : V) (e : Ex) (x : Str) (n : Int), vs = [v, .str x, .int n] ∧ Dp K H v e.d ∧ exF k e ∧ k ≤ 12 ∧ nmB x = true ∧ ∀ (b : Bool) (H' : Hp), (b = true ↔ isShift e x n) → Same H H' → Q (.bl b) H'
section
variable {P : Program} {w : World} {K : PySem.W.Frag} {mg : Str → Option Value} {base : Heap} {file : Str}
theorem ok_with (T : Txt K mg file) : FnOk P w K mg base CX0 3 T.a_with_proc T.fd_with_proc ["game", "new"] (spWith K T.C_Game) := by
  have G_Game_init : FnOk P w K mg base CX0 1 T.a_Game_init T.fd_Game_init ["self", "variables", "tables", "lots", "procs"] (spGInit T.C_Game) := ok_ginit T
  refine T.F_with_proc.ok sc_with_proc (fun vs H Q E h => ?_) (fun cdv A outer s H vs Q E hr h => ?_)
  · obtain ⟨g, v, G, p, rfl, _⟩ := h
    rfl
  obtain ⟨g, v, G, p, rfl, ⟨dx, a, b, c, d, hg, da, db, dc, dd⟩, dv, hl, q⟩ := h
  obtain ⟨pa, xs, rfl, hpa, dxs⟩ := dp_inv dd
  have lx : xs.length = G.procs.length := (DpAll.len dxs).trans (List.length_map _)
  have dv0 := dv
  obtain ⟨va, vla, vba, vr, vbs, rfl, hva, _⟩ := pr_inv dv
  refine ⟨_, (pss_cons (ps_set (i := 2) sc_with_proc.nd rfl (Or.inl rfl) (pe_callTy call_tuple_of (by rfl) T.z_tuple (by decide +kernel) (pa_cons (pe_lc (own := [("proc", 3)]) (g := gName 3) (tt := tYes) rfl sc_with_proc.nd (pi_tup (pe_fld (pv 0) rfl)) (blkOk_by (own := [("proc", 3)]) (N := ["game", "new", "procs", "proc"]) (sc := defScope s_with_proc) (by decide +kernel)) (fun _ _ _ _ _ => pg_name (i := 3) sc_with_proc.nd rfl (Or.inl rfl)) (fun _ _ _ _ _ => pts_nil) (fun _ _ _ _ _ => (pe_ifExp (pt_cmpR op_eq (pe_ix (ixtK K rfl) (pv 3) pe_int (fun _ _ => rfl)) (pe_ix (ixtK K rfl) (pv 1) pe_int (fun _ _ => rfl)) (nomark _)) (pv 1) (pv 3)))) pa_nil)))
    (pss_one (ps_ret (pe_make T.mk_Game G_Game_init (hr.mono (by decide)) rfl T.g_Game T.b_Game_init .nil pass0 (pa_cons (pe_fld (pv 0) rfl) (pa_cons (pe_fld (pv 0) rfl) (pa_cons (pe_fld (pv 0) rfl) (pa_cons (pv 2) pa_nil)))))))), ?_⟩
  refine ⟨_, rfl, g, _, dx, _, _, rfl, hg, T.cl_Game, T.na_Game_procs, gf_procs _ _ _ _, pa, rfl, ⟨_, hpa⟩, fun D hD => ?_⟩
  have m0 := same_new hD (.lst [])
  refine lc_tup (K := K) (a := pa) (xs := xs) (fun i H' => ∃ us, Acc K H H' D us (((G.put p).procs.take i).map Pr.d)) ⟨[], Acc.start hD⟩ (fun i H' _ ⟨_, ac⟩ => sqT_mono ac.s hpa) ?_ ?_
  · rintro i x H' hx ⟨us, ac⟩
    have hi := (List.getElem?_eq_some_iff.mp hx).1
    obtain ⟨r, er⟩ : ∃ r, G.procs[i]? = some r := ⟨G.procs[i]'(lx ▸ hi), List.getElem?_eq_getElem _⟩
    obtain ⟨x', ex, dr⟩ := DpAll.get dxs (show (G.procs.map Pr.d)[i]? = some r.d by rw [List.getElem?_map, er]; rfl)
    rw [hx] at ex
    cases ex
    have dr0 := dr
    obtain ⟨ra, rla, rba, rr, rbs, rfl, hra, _⟩ := pr_inv dr
    have hlen : us.length < sizeLine := by
      have := ac.len
      rw [List.length_map, List.length_take] at this
      exact Nat.lt_of_le_of_lt (show us.length ≤ 1000 by omega) (by decide)
    have ep : (G.put p).procs[i]? = some (if r.name = p.name then p else r) := by
      show (G.procs.map _)[i]? = _
      rw [List.getElem?_map, er]
      rfl
    refine ⟨rfl, _, rfl, ra, _, 0, _, rfl, rfl, sqT_mono ac.s hra, atI_nat (j := 0) rfl, _, rfl, va, _, 0, _, rfl, rfl, sqT_mono ac.s hva, atI_nat (j := 0) rfl, rfl, _, rfl, ite2 (fun z => ?_) (fun z => ?_)⟩
    · have z' : r.name = p.name := V.str.inj (of_decide_eq_true z)
      rw [if_pos z'] at ep
      refine ⟨_, rfl, us, ac.l, hlen, us ++ [.ref va], ?_⟩
      rw [take_more ep, List.map_append]
      exact ac.add (dp_mono ac.s _ _ dv0) (Pr.nol p)
    · have z' : ¬ r.name = p.name := fun y => z (decide_eq_true (congrArg V.str y))
      rw [if_neg z'] at ep
      refine ⟨_, rfl, us, ac.l, hlen, us ++ [.ref ra], ?_⟩
      rw [take_more ep, List.map_append]
      exact ac.add (dp_mono ac.s _ _ dr0) (Pr.nol r)
  rintro H1 ⟨us, ac⟩
  have e1 : (G.put p).procs.take xs.length = (G.put p).procs := by
    have : (G.put p).procs.length = xs.length := by rw [lx]; exact List.length_map _
    rw [← this, List.take_length]
  rw [e1] at ac
  refine ⟨D, us, rfl, .inl ⟨SqL.of ac.l, fun tp htp => ?_⟩⟩
  have m2 := ac.s.trans (same_new htp (.tup us))
  have dt : Dp K (upd H1 tp (.tup us)) (.ref tp) (.tuple ((G.put p).procs.map Pr.d)) := dp_tup htp ac.d
  refine ⟨_, rfl, g, _, dx, _, _, rfl, m2 _ _ hg, T.cl_Game, T.na_Game_variables, gf_variables _ _ _ _, ?_⟩
  refine ⟨_, rfl, g, _, dx, _, _, rfl, m2 _ _ hg, T.cl_Game, T.na_Game_tables, gf_tables _ _ _ _, ?_⟩
  refine ⟨_, rfl, g, _, dx, _, _, rfl, m2 _ _ hg, T.cl_Game, T.na_Game_lots, gf_lots _ _ _ _, ?_⟩
  refine ⟨_, rfl, fun g' dx' ng nd ne => ?_⟩
  refine ⟨g', dx', a, b, c, .ref tp, rfl, upd_same, fun H3 e3 hk => ⟨rfl, ?_⟩⟩
  have m3 : Same (upd H1 tp (.tup us)) H3 := fun x o e => hk x o (same_make ng nd x o e) (ne_of_none e ng)
  have m := m2.trans m3
  exact q g' H3 m ⟨dx', a, b, c, .ref tp, e3, dp_mono m _ _ da, dp_mono m _ _ db, dp_mono m _ _ dc, dp_mono m3 _ _ dt⟩
theorem ok_repl (T : Txt K mg file) : FnOk P w K mg base CX0 4 T.a_replaced T.fd_replaced ["game", "proc", "at", "many", "statements"] (spRepl K T.C_Game) := by
  have G_with_proc : FnOk P w K mg base CX0 3 T.a_with_proc T.fd_with_proc ["game", "new"] (spWith K T.C_Game) := ok_with T
  refine T.F_replaced.ok sc_replaced (fun vs H Q E h => ?_) (fun cdv A outer s H vs Q E hr h => ?_)
  · obtain ⟨g, v, u, i, m, G, p, ss, rfl, _⟩ := h
    rfl
  obtain ⟨g, v, u, i, m, G, p, ss, rfl, hg, dv, du, hl, hl2, q⟩ := h
  have dv0 := dv
  obtain ⟨va, vla, vba, vr, vbs, rfl, hva, hla, hba, dbs, dres⟩ := pr_inv dv
  obtain ⟨ua, us, rfl, hua, dus⟩ := dp_inv du
  refine ⟨_, (pss_cons (ps_asg (pv 1) (pg_tup rfl (pgs_cons (pg_name (i := 5) sc_replaced.nd rfl (Or.inl rfl)) (pgs_cons (pg_name (i := 6) sc_replaced.nd rfl (Or.inl rfl)) (pgs_cons (pg_name (i := 7) sc_replaced.nd rfl (Or.inl rfl)) (pgs_cons (pg_name (i := 8) sc_replaced.nd rfl (Or.inl rfl)) (pgs_cons (pg_name (i := 9) sc_replaced.nd rfl (Or.inl rfl)) (pgs_cons (pg_name (i := 10) sc_replaced.nd rfl (Or.inl rfl)) pgs_nil))))))))
    (pss_cons (ps_set (i := 11) sc_replaced.nd rfl (Or.inl rfl) (pe_tup (StX.pa_star (pe_slice (slTB K rfl) (pv 9) po_none (po_some (pv 2))) (StX.pa_star (pv 4) (StX.pa_star (pe_slice (slTB K rfl) (pv 9) (po_some (pe_op op_add (pv 2) (pv 3))) po_none) pa_nil)))))
    (pss_one (ps_ret (pe_call G_with_proc (hr.mono (by decide)) rfl T.g_with_proc T.k_with_proc T.b_with_proc .nil pass0 (pa_cons (pv 0) (pa_cons (pe_tup (pa_cons (pv 5) (pa_cons (pv 6) (pa_cons (pv 7) (pa_cons (pv 8) (pa_cons (pv 11) (pa_cons (pv 10) pa_nil))))))) pa_nil))))))), ?_⟩
  refine ⟨_, rfl, va, _, rfl, hva, rfl, _, _, rfl, _, _, rfl, _, _, rfl, _, _, rfl, _, _, rfl, _, _, rfl, rfl, ?_⟩
  have lb : vbs.length = p.block.l.length := (DpAll.len dbs).trans (List.length_map _)
  have lu : us.length = ss.length := (DpAll.len dus).trans (List.length_map _)
  refine ⟨_, rfl, _, rfl, _, rfl, vba, vbs, rfl, hba, fun c1 H1 m1 hc1 => ?_⟩
  rw [cut_take] at hc1
  refine ⟨c1, _, rfl, .inl hc1, _, rfl, ua, us, rfl, .inl (sqT_mono m1 hua), ?_⟩
  refine ⟨_, rfl, _, rfl, _, rfl, _, _, rfl, rfl, _, rfl, vba, vbs, rfl, sqT_mono m1 hba, fun c2 H2 m2 hc2 => ?_⟩
  rw [show ((i : Int) + (m : Int)) = ((i + m : Nat) : Int) from by omega, cut_drop] at hc2
  have m12 := m1.trans m2
  refine ⟨c2, _, rfl, .inl hc2, ?_, fun nt hnt => ?_⟩
  · refine Nat.le_trans (show _ ≤ 3000 from ?_) (by decide)
    simp only [List.length_append, List.length_take, List.length_drop, List.length_nil]
    omega
  rw [List.append_nil]
  have m3 := same_new hnt (.tup (vbs.take i ++ (us ++ vbs.drop (i + m))))
  have m123 := m12.trans m3
  have db : Dp K (upd H2 nt (.tup (vbs.take i ++ (us ++ vbs.drop (i + m))))) (.ref nt) (p.repl i m ss).block.d := by
    have : DpAll K H2 (vbs.take i ++ (us ++ vbs.drop (i + m))) ((p.repl i m ss).block.l.map Stm.d) := by
      show DpAll K H2 _ ((Blk.of _).l.map Stm.d)
      rw [Blk.l_of, List.map_append, List.map_append, List.append_assoc, List.map_take, List.map_drop]
      exact DpAll.app (DpAll.take i (dp_monoAll m12 _ _ dbs)) (DpAll.app (dp_monoAll m12 _ _ dus) (DpAll.drop (i + m) (dp_monoAll m12 _ _ dbs)))
    have h := dp_tup hnt this
    rw [← Blk.ds_l] at h
    exact h
  refine ⟨_, rfl, _, rfl, _, rfl, _, rfl, _, rfl, _, rfl, _, rfl, by show 6 ≤ sizeLine; decide, fun tp htp => ?_⟩
  have m4 := same_new htp (.tup [.str p.name, .int p.size, .int p.ans, .ref vla, .ref nt, vr])
  have mm4 := m123.trans m4
  refine ⟨g, .ref tp, G, p.repl i m ss, rfl, hg.same mm4, ?_, hl, fun g' H' mm gd => q g' H' (mm4.trans mm) gd⟩
  have d1 : Dp K H (.ref vla) (strD p.locs) := .tup hla (dp_strs p.locs)
  exact dp_tup (ds := [.str p.name, .int p.size, .int p.ans, strD p.locs, (p.repl i m ss).block.d, p.res.d]) htp (.cons (.str _) (.cons (.int _) (.cons (.int _) (.cons (dp_mono m123 _ _ d1) (.cons db (.cons (dp_mono m123 _ _ dres) .nil))))))
theorem ok_ev (T : Txt K mg file) : ∀ k : Nat, FnOk P w K mg base CX0 (k + 1) T.a_every_expression T.fd_every_expression ["expression"] (spEv K k)
  | 0 => by
    refine T.F_every_expression.ok sc_every_expression (fun vs H Q E h => ?_) (fun cdv A outer s H vs Q E hr h => ?_)
    · obtain ⟨v, e, rfl, _⟩ := h
      rfl
    · obtain ⟨v, e, rfl, _, z, _⟩ := h
      exact z.elim
  | k + 1 => by
    have G_every_expression : FnOk P w K mg base CX0 (k + 1) T.a_every_expression T.fd_every_expression ["expression"] (spEv K k) := ok_ev T k
    refine T.F_every_expression.ok sc_every_expression (fun vs H Q E h => ?_) (fun cdv A outer s H vs Q E hr h => ?_)
    · obtain ⟨v, e, rfl, _⟩ := h
      rfl
    obtain ⟨v, e, rfl, de, ex, hk, q⟩ := h
    refine ⟨_, (pss_cons (ps_set (i := 1) sc_every_expression.nd rfl (Or.inl rfl) (pe_lst (pa_cons (pv 0) pa_nil)))
    (pss_cons (ps_if (pt_cmpR op_in_seq (pe_ix ix_tup (pv 0) pe_int (fun _ _ => rfl)) (pe_glob (v := .ref T.a_OPERATORS) rfl T.g_OPERATORS rfl) rfl)
      (pss_one (ps_expr (pe_bm PySem.F.plainAttrs_list PySem.F.slot_list_extend PySem.F.type_list_extend mt_extend (pv 1) (pa_cons (pe_call G_every_expression (hr.mono (by omega)) rfl T.g_every_expression T.k_every_expression T.b_every_expression .nil pass0 (pa_cons (pe_ix ix_tup (pv 0) pe_int (fun _ _ => rfl)) pa_nil)) pa_nil))))
      pss_nil)
    (pss_cons (ps_if (PW.pt (pw_or (pt_cmpR op_in_seq (pe_ix ix_tup (pv 0) pe_int (fun _ _ => rfl)) (pe_glob (v := .ref T.a_OPERATORS) rfl T.g_OPERATORS rfl) rfl) (pw_or1 (pt_cmpR op_in_seq (pe_ix ix_tup (pv 0) pe_int (fun _ _ => rfl)) (pe_glob (v := .ref T.a_LOOKS) rfl T.g_LOOKS rfl) rfl))))
      (pss_one (ps_expr (pe_bm PySem.F.plainAttrs_list PySem.F.slot_list_extend PySem.F.type_list_extend mt_extend (pv 1) (pa_cons (pe_call G_every_expression (hr.mono (by omega)) rfl T.g_every_expression T.k_every_expression T.b_every_expression .nil pass0 (pa_cons (pe_ix ix_tup (pv 0) pe_int (fun _ _ => rfl)) pa_nil)) pa_nil))))
      pss_nil)
    (pss_one (ps_ret (pv 1)))))), ?_⟩
    have de0 := de
    have big : ∀ n : Nat, n ≤ 10000 → n ≤ sizeLine := fun n h => Nat.le_trans h (by decide)
    have pw : (2 : Nat) ^ k ≤ 2 ^ 12 := Nat.pow_le_pow_right (by decide) (by omega)
    have pw2 : (2 : Nat) ^ 12 = 4096 := by decide
    have hi : ∀ x : Str, inV (.str x) ((["+", "-", "*", "/", "mod", "<", "="] : List Str).map V.str) = decide (x ∈ ops) := fun x => Pz.inV_strs x ops
    have hj : ∀ x : Str, inV (.str x) ((["has", "cell"] : List Str).map V.str) = decide (x ∈ (["has", "cell"] : List Str)) := fun x => Pz.inV_strs x ["has", "cell"]
    refine ⟨_, rfl, by show 1 ≤ sizeLine; decide, fun L hL => ?_⟩
    have m0 := same_new hL (.lst [v])
    have ac0 : Acc K H (upd H L (.lst [v])) L [v] [e.d] := by
      have := (Acc.start (K := K) hL).add (v := v) (d := e.d) (dp_mono (same_new hL _) _ _ de) e.nol
      have e2 : upd (upd H L (.lst [])) L (.lst ([] ++ [v])) = upd H L (.lst [v]) := by
        funext b
        by_cases hb : b = L
        · subst hb; rw [upd_same, upd_same]; rfl
        · rw [upd_ne hb, upd_ne hb, upd_ne hb]
      rw [e2] at this
      exact this
    by_cases ko : e.kind ∈ ops
    case pos =>
      obtain ⟨o, x, y, rfl⟩ := (kind_op ex).mp ko
      obtain ⟨a, u, z, rfl, ha, du, dz⟩ := op_inv de
      have ha1 := sqT_mono m0 ha
      have lx := Ex.subs_len ex.2.1
      have ly := Ex.subs_len ex.2.2
      refine ⟨_, rfl, a, _, 0, _, rfl, rfl, ha1, atI_nat (j := 0) rfl, _, _, rfl, .inr (T.q_OPERATORS _), rfl, Pz.flat_strs _, _, rfl, ?_⟩
      rw [if_neg Bool.false_ne_true, hi]
      refine iteT2 (decide_eq_true ko) ?_
      refine ⟨_, rfl, .inl ⟨rfl, _, SqL.of ac0.l⟩, _, rfl, a, _, 1, _, rfl, rfl, ha1, atI_nat (j := 1) rfl, u, x, rfl, dp_mono m0 _ _ du, ex.2.1, by omega, fun Lx ux H1 nLx m1 hLx dux => ?_⟩
      have ac1 := ac0.grow m1
      have lux := DpAll.len dux
      rw [List.length_map] at lux
      refine ⟨L, Lx, _, _, rfl, rfl, ac1.l, hLx, by rw [List.length_singleton]; exact big _ (by omega), ?_⟩
      have ac2 := ac1.ext dux (nolAll_ex _)
      have ha2 := sqT_mono ac2.s ha
      refine ⟨_, rfl, a, _, 0, _, rfl, rfl, ha2, atI_nat (j := 0) rfl, _, _, rfl, .inr (T.q_OPERATORS _), rfl, Pz.flat_strs _, _, rfl, ?_⟩
      rw [if_neg Bool.false_ne_true, hi]
      refine iteT2 (decide_eq_true ko) ?_
      refine iteT2 rfl ?_
      refine ⟨_, rfl, .inl ⟨rfl, _, SqL.of ac2.l⟩, _, rfl, a, _, 2, _, rfl, rfl, ha2, atI_nat (j := 2) rfl, z, y, rfl, dp_mono ac2.s _ _ dz, ex.2.2, by omega, fun Ly uy H2 nLy m2 hLy duy => ?_⟩
      have ac3 := ac2.grow m2
      have luy := DpAll.len duy
      rw [List.length_map] at luy
      refine ⟨L, Ly, _, _, rfl, rfl, ac3.l, hLy, by rw [List.length_append, List.length_singleton]; exact big _ (by omega), ?_⟩
      have ac4 := ac3.ext duy (nolAll_ex _)
      refine ⟨_, rfl, q L _ _ hL ac4.s ac4.l ?_⟩
      have e1 : (Ex.op o x y).subs.map Ex.d = [(Ex.op o x y).d] ++ x.subs.map Ex.d ++ y.subs.map Ex.d := by
        show (_ :: (x.subs ++ y.subs)).map Ex.d = _
        rw [List.map_cons, List.map_append]
        rfl
      rw [e1]
      exact ac4.d
    obtain ⟨a, rr, rfl, ha⟩ := ex_inv de
    have ha1 := sqT_mono m0 ha
    refine ⟨_, rfl, a, _, 0, _, rfl, rfl, ha1, atI_nat (j := 0) rfl, _, _, rfl, .inr (T.q_OPERATORS _), rfl, Pz.flat_strs _, _, rfl, ?_⟩
    rw [if_neg Bool.false_ne_true, hi]
    refine iteF2 (decide_eq_false ko) ?_
    refine ⟨_, rfl, a, _, 0, _, rfl, rfl, ha1, atI_nat (j := 0) rfl, _, _, rfl, .inr (T.q_OPERATORS _), rfl, Pz.flat_strs _, _, rfl, ?_⟩
    rw [if_neg Bool.false_ne_true, hi]
    refine iteF2 (decide_eq_false ko) ?_
    refine ⟨_, rfl, a, _, 0, _, rfl, rfl, ha1, atI_nat (j := 0) rfl, _, _, rfl, .inr (T.q_LOOKS _), rfl, Pz.flat_strs _, _, rfl, ?_⟩
    rw [if_neg Bool.false_ne_true, hj]
    match e, ex, ko with
    | .op o x y, ex, ko => exact absurd ((kind_op ex).mpr ⟨_, _, _, rfl⟩) ko
    | .num n, ex, _ => exact iteF2 rfl ⟨_, rfl, q L _ _ hL ac0.s ac0.l ac0.d⟩
    | .loc n, ex, _ => exact iteF2 rfl ⟨_, rfl, q L _ _ hL ac0.s ac0.l ac0.d⟩
    | .var n, ex, _ => exact iteF2 rfl ⟨_, rfl, q L _ _ hL ac0.s ac0.l ac0.d⟩
    | .has t x, ex, _ =>
      obtain ⟨b, u, eb, hb, du⟩ := has_inv de0
      have eb := V.ref.inj eb
      subst eb
      have hb1 := sqT_mono m0 hb
      have lx := Ex.subs_len ex.2
      refine iteT2 (show decide (("has" : Str) ∈ (["has", "cell"] : List Str)) = true by decide +kernel) ?_
      refine ⟨_, rfl, .inl ⟨rfl, _, SqL.of ac0.l⟩, _, rfl, a, _, 2, _, rfl, rfl, hb1, atI_nat (j := 2) rfl, u, x, rfl, dp_mono m0 _ _ du, ex.2, by omega, fun Lx ux H1 nLx m1 hLx dux => ?_⟩
      have ac1 := ac0.grow m1
      have lux := DpAll.len dux
      rw [List.length_map] at lux
      refine ⟨L, Lx, _, _, rfl, rfl, ac1.l, hLx, by rw [List.length_singleton]; exact big _ (by omega), ?_⟩
      have ac2 := ac1.ext dux (nolAll_ex _)
      exact ⟨_, rfl, q L _ _ hL ac2.s ac2.l ac2.d⟩
    | .cell t x, ex, _ =>
      obtain ⟨b, u, eb, hb, du⟩ := cell_inv de0
      have eb := V.ref.inj eb
      subst eb
      have hb1 := sqT_mono m0 hb
      have lx := Ex.subs_len ex.2
      refine iteT2 (show decide (("cell" : Str) ∈ (["has", "cell"] : List Str)) = true by decide +kernel) ?_
      refine ⟨_, rfl, .inl ⟨rfl, _, SqL.of ac0.l⟩, _, rfl, a, _, 2, _, rfl, rfl, hb1, atI_nat (j := 2) rfl, u, x, rfl, dp_mono m0 _ _ du, ex.2, by omega, fun Lx ux H1 nLx m1 hLx dux => ?_⟩
      have ac1 := ac0.grow m1
      have lux := DpAll.len dux
      rw [List.length_map] at lux
      refine ⟨L, Lx, _, _, rfl, rfl, ac1.l, hLx, by rw [List.length_singleton]; exact big _ (by omega), ?_⟩
      have ac2 := ac1.ext dux (nolAll_ex _)
      exact ⟨_, rfl, q L _ _ hL ac2.s ac2.l ac2.d⟩
theorem ok_exreads (T : Txt K mg file) (k : Nat) : FnOk P w K mg base CX0 (k + 2) T.a_expression_reads T.fd_expression_reads ["expression"] (spExReads K k) := by
  have G_every_expression : FnOk P w K mg base CX0 (k + 1) T.a_every_expression T.fd_every_expression ["expression"] (spEv K k) := ok_ev T k
  refine T.F_expression_reads.ok sc_expression_reads (fun vs H Q E h => ?_) (fun cdv A outer s H vs Q E hr h => ?_)
  · obtain ⟨v, e, rfl, _⟩ := h
    rfl
  obtain ⟨v, e, rfl, de, ex, hk, q⟩ := h
  refine ⟨_, (pss_cons (ps_set (i := 1) sc_expression_reads.nd rfl (Or.inl rfl) (pe_lst pa_nil))
    (pss_cons (ps_for PassesOwn.never rfl (pi_list (pe_call G_every_expression (hr.mono (by omega)) rfl T.g_every_expression T.k_every_expression T.b_every_expression .nil pass0 (pa_cons (pv 0) pa_nil))) (pg_name (i := 2) sc_expression_reads.nd rfl (Or.inl rfl))
      (pss_one (ps_if (pt_cmpR op_in_seq (pe_ix ix_tup (pv 2) pe_int (fun _ _ => rfl)) (pe_tup (pa_cons pe_str (pa_cons pe_str pa_nil))) rfl)
      (pss_one (ps_expr (pe_bm PySem.F.plainAttrs_list PySem.F.slot_list_append PySem.F.type_list_append mt_append (pv 1) (pa_cons (pv 2) pa_nil))))
      (pss_one (ps_if (pt_cmpR op_in_seq (pe_ix ix_tup (pv 2) pe_int (fun _ _ => rfl)) (pe_glob (v := .ref T.a_LOOKS) rfl T.g_LOOKS rfl) rfl)
      (pss_one (ps_expr (pe_bm PySem.F.plainAttrs_list PySem.F.slot_list_append PySem.F.type_list_append mt_append (pv 1) (pa_cons (pe_tup (pa_cons pe_str (pa_cons (pe_ix ix_tup (pv 2) pe_int (fun _ _ => rfl)) pa_nil))) pa_nil))))
      pss_nil)))))
    (pss_one (ps_ret (pv 1))))), ?_⟩
  have hi : ∀ x : Str, inV (.str x) [.str "local", .str "variable"] = decide (x ∈ (["local", "variable"] : List Str)) := fun x => Pz.inV_strs x ["local", "variable"]
  have hj : ∀ x : Str, inV (.str x) ((["has", "cell"] : List Str).map V.str) = decide (x ∈ (["has", "cell"] : List Str)) := fun x => Pz.inV_strs x ["has", "cell"]
  have pw : (2 : Nat) ^ k ≤ 2 ^ 12 := Nat.pow_le_pow_right (by decide) (by omega)
  have pw2 : (2 : Nat) ^ 12 = 4096 := by decide
  have two : (2 : Nat) ≤ sizeLine := by decide
  have sl := Ex.subs_len ex
  have sf := Ex.subs_fit ex
  refine ⟨by show 0 ≤ sizeLine; decide, fun L hL => ?_⟩
  have m0 := same_new hL (.lst [])
  refine ⟨_, rfl, v, e, rfl, dp_mono m0 _ _ de, ex, hk, fun Lx ux H1 nLx m1 hLx dux => ?_⟩
  have ac0 := (Acc.start (K := K) hL).grow m1
  have lux := DpAll.len dux
  rw [List.length_map] at lux
  have neL : L ≠ Lx := fun z => by
    subst z
    rw [upd_same] at nLx
    cases nLx
  refine ⟨Lx, rfl, ⟨_, SqL.of hLx⟩, ?_⟩
  refine for_list (K := K) (a := Lx) (xs := ux) (fun i σ H' => ∃ (vs : List V) (y : Option V), σ = [some v, some (.ref L), y] ∧ Acc K H H' L vs (((e.subs.take i).filterMap Ex.rd1).map plD) ∧ H' Lx = some (.lst ux) ∧ DpAll K H' ux (e.subs.map Ex.d)) ⟨[], none, rfl, ac0, hLx, dux⟩ (fun i σ H' _ ⟨_, _, _, _, h, _⟩ => SqL.of h) ?_ ?_
  · rintro i x σ H2 hx ⟨vs, y, rfl, ac, hl2, dd⟩
    have hi' := (List.getElem?_eq_some_iff.mp hx).1
    obtain ⟨f, ef⟩ : ∃ f, e.subs[i]? = some f := ⟨e.subs[i]'(lux ▸ hi'), List.getElem?_eq_getElem _⟩
    obtain ⟨x', ex', df⟩ := DpAll.get dd (show (e.subs.map Ex.d)[i]? = some f.d by rw [List.getElem?_map, ef]; rfl)
    rw [hx] at ex'
    cases ex'
    have ff := sf f (List.mem_of_getElem? ef)
    have hlen : vs.length < sizeLine := by
      have := ac.len
      rw [List.length_map] at this
      have h2 := List.length_filterMap_le Ex.rd1 (e.subs.take i)
      rw [List.length_take] at h2
      exact Nat.lt_of_le_of_lt (show vs.length ≤ 5000 by omega) (by decide)
    have tk : ∀ o, f.rd1 = o → ((e.subs.take (i + 1)).filterMap Ex.rd1) = ((e.subs.take i).filterMap Ex.rd1) ++ o.toList := fun o h => by
      rw [take_more ef, List.filterMap_append]
      congr 1
      show [f].filterMap Ex.rd1 = _
      cases o with
      | none => rw [List.filterMap_cons_none h]; rfl
      | some p => rw [List.filterMap_cons_some h]; rfl
    have nx : ∀ {u : V} {p : Str × Str} {H3 : Hp}, f.rd1 = some p → Same H2 H3 → Dp K H3 u (plD p) → ∃ (vs' : List V) (y : Option V), [some v, some (V.ref L), some x] = [some v, some (.ref L), y] ∧ Acc K H (upd H3 L (.lst (vs ++ [u]))) L vs' (((e.subs.take (i + 1)).filterMap Ex.rd1).map plD) ∧ (upd H3 L (.lst (vs ++ [u]))) Lx = some (.lst ux) ∧ DpAll K (upd H3 L (.lst (vs ++ [u]))) ux (e.subs.map Ex.d) := fun {u p H3} ep m3 du => by
      have ac3 := (ac.grow m3).add du (show nol (plD p) = true from rfl)
      refine ⟨vs ++ [u], _, rfl, ?_, by rw [upd_ne fun z => neL z.symm]; exact m3 _ _ hl2, dp_tupsAll (Tups.lst (ac.grow m3).l) _ _ (nolAll_ex _) (dp_monoAll m3 _ _ dd)⟩
      rw [tk _ ep, List.map_append]
      exact ac3
    have skip : ∀ {H3 : Hp}, f.rd1 = none → Same H2 H3 → ∃ (vs' : List V) (y : Option V), [some v, some (V.ref L), some x] = [some v, some (.ref L), y] ∧ Acc K H H3 L vs' (((e.subs.take (i + 1)).filterMap Ex.rd1).map plD) ∧ H3 Lx = some (.lst ux) ∧ DpAll K H3 ux (e.subs.map Ex.d) := fun {H3} ep m3 => by
      refine ⟨vs, _, rfl, ?_, m3 _ _ hl2, dp_monoAll m3 _ _ dd⟩
      rw [tk _ ep, show (none : Option (Str × Str)).toList = [] from rfl, List.append_nil]
      exact ac.grow m3
    cases f with
    | loc z =>
      have df0 := df
      obtain ⟨a, rfl, ha⟩ := loc_inv df
      refine ⟨_, rfl, a, _, 0, _, rfl, rfl, ha, atI_nat (j := 0) rfl, two, fun t ht => ?_⟩
      have m3 := same_new ht (.tup [V.str "local", V.str "variable"])
      refine ⟨_, _, rfl, .inr (SqT.of upd_same), rfl, by decide +kernel, _, rfl, ?_⟩
      rw [if_neg Bool.false_ne_true, hi]
      refine iteT2 (by decide +kernel) ?_
      exact ⟨_, rfl, .inl ⟨rfl, _, SqL.of (m3 _ _ ac.l)⟩, _, rfl, L, vs, _, rfl, rfl, m3 _ _ ac.l, hlen, nx rfl m3 (dp_mono m3 _ _ df0)⟩
    | var z =>
      have df0 := df
      obtain ⟨a, rfl, ha⟩ := var_inv df
      refine ⟨_, rfl, a, _, 0, _, rfl, rfl, ha, atI_nat (j := 0) rfl, two, fun t ht => ?_⟩
      have m3 := same_new ht (.tup [V.str "local", V.str "variable"])
      refine ⟨_, _, rfl, .inr (SqT.of upd_same), rfl, by decide +kernel, _, rfl, ?_⟩
      rw [if_neg Bool.false_ne_true, hi]
      refine iteT2 (by decide +kernel) ?_
      exact ⟨_, rfl, .inl ⟨rfl, _, SqL.of (m3 _ _ ac.l)⟩, _, rfl, L, vs, _, rfl, rfl, m3 _ _ ac.l, hlen, nx rfl m3 (dp_mono m3 _ _ df0)⟩
    | num z =>
      obtain ⟨a, rfl, ha⟩ := num_inv df
      refine ⟨_, rfl, a, _, 0, _, rfl, rfl, ha, atI_nat (j := 0) rfl, two, fun t ht => ?_⟩
      have m3 := same_new ht (.tup [V.str "local", V.str "variable"])
      refine ⟨_, _, rfl, .inr (SqT.of upd_same), rfl, by decide +kernel, _, rfl, ?_⟩
      rw [if_neg Bool.false_ne_true, hi]
      refine iteF2 (by decide +kernel) ?_
      refine ⟨_, rfl, a, _, 0, _, rfl, rfl, sqT_mono m3 ha, atI_nat (j := 0) rfl, _, _, rfl, .inr (T.q_LOOKS _), rfl, Pz.flat_strs _, _, rfl, ?_⟩
      rw [if_neg Bool.false_ne_true, hj]
      exact iteF2 (by decide +kernel) (skip rfl m3)
    | has tn z =>
      obtain ⟨a, u, rfl, ha, _⟩ := has_inv df
      refine ⟨_, rfl, a, _, 0, _, rfl, rfl, ha, atI_nat (j := 0) rfl, two, fun t ht => ?_⟩
      have m3 := same_new ht (.tup [V.str "local", V.str "variable"])
      refine ⟨_, _, rfl, .inr (SqT.of upd_same), rfl, by decide +kernel, _, rfl, ?_⟩
      rw [if_neg Bool.false_ne_true, hi]
      refine iteF2 (by decide +kernel) ?_
      refine ⟨_, rfl, a, _, 0, _, rfl, rfl, sqT_mono m3 ha, atI_nat (j := 0) rfl, _, _, rfl, .inr (T.q_LOOKS _), rfl, Pz.flat_strs _, _, rfl, ?_⟩
      rw [if_neg Bool.false_ne_true, hj]
      refine iteT2 (by decide +kernel) ?_
      refine ⟨_, rfl, .inl ⟨rfl, _, SqL.of (m3 _ _ ac.l)⟩, _, rfl, a, _, 1, _, rfl, rfl, sqT_mono m3 ha, atI_nat (j := 1) rfl, two, fun t2 ht2 => ?_⟩
      have m4 := m3.trans (same_new ht2 (.tup [V.str "table", V.str tn]))
      exact ⟨L, vs, _, rfl, rfl, m4 _ _ ac.l, hlen, nx (p := ("table", tn)) rfl m4 (dp_tup (ds := [.str "table", .str tn]) ht2 (.cons (.str _) (.cons (.str _) .nil)))⟩
    | cell tn z =>
      obtain ⟨a, u, rfl, ha, _⟩ := cell_inv df
      refine ⟨_, rfl, a, _, 0, _, rfl, rfl, ha, atI_nat (j := 0) rfl, two, fun t ht => ?_⟩
      have m3 := same_new ht (.tup [V.str "local", V.str "variable"])
      refine ⟨_, _, rfl, .inr (SqT.of upd_same), rfl, by decide +kernel, _, rfl, ?_⟩
      rw [if_neg Bool.false_ne_true, hi]
      refine iteF2 (by decide +kernel) ?_
      refine ⟨_, rfl, a, _, 0, _, rfl, rfl, sqT_mono m3 ha, atI_nat (j := 0) rfl, _, _, rfl, .inr (T.q_LOOKS _), rfl, Pz.flat_strs _, _, rfl, ?_⟩
      rw [if_neg Bool.false_ne_true, hj]
      refine iteT2 (by decide +kernel) ?_
      refine ⟨_, rfl, .inl ⟨rfl, _, SqL.of (m3 _ _ ac.l)⟩, _, rfl, a, _, 1, _, rfl, rfl, sqT_mono m3 ha, atI_nat (j := 1) rfl, two, fun t2 ht2 => ?_⟩
      have m4 := m3.trans (same_new ht2 (.tup [V.str "table", V.str tn]))
      exact ⟨L, vs, _, rfl, rfl, m4 _ _ ac.l, hlen, nx (p := ("table", tn)) rfl m4 (dp_tup (ds := [.str "table", .str tn]) ht2 (.cons (.str _) (.cons (.str _) .nil)))⟩
    | op o z y =>
      obtain ⟨a, u, u2, rfl, ha, _⟩ := op_inv df
      have oo := (kind_op ff).mpr ⟨_, _, _, rfl⟩
      have on : o ∉ (["local", "variable"] : List Str) ∧ o ∉ (["has", "cell"] : List Str) := (by decide +kernel : ∀ o ∈ ops, o ∉ (["local", "variable"] : List Str) ∧ o ∉ (["has", "cell"] : List Str)) o oo
      refine ⟨_, rfl, a, _, 0, _, rfl, rfl, ha, atI_nat (j := 0) rfl, two, fun t ht => ?_⟩
      have m3 := same_new ht (.tup [V.str "local", V.str "variable"])
      refine ⟨_, _, rfl, .inr (SqT.of upd_same), rfl, by decide +kernel, _, rfl, ?_⟩
      rw [if_neg Bool.false_ne_true, hi]
      refine iteF2 (decide_eq_false on.1) ?_
      refine ⟨_, rfl, a, _, 0, _, rfl, rfl, sqT_mono m3 ha, atI_nat (j := 0) rfl, _, _, rfl, .inr (T.q_LOOKS _), rfl, Pz.flat_strs _, _, rfl, ?_⟩
      rw [if_neg Bool.false_ne_true, hj]
      exact iteF2 (decide_eq_false on.2) (skip rfl m3)
  · rintro σ H2 ⟨vs, y, rfl, ac, hl2, dd⟩
    rw [lux, List.take_length] at ac
    exact ⟨_, rfl, q L vs H2 hL ac.s ac.l ac.d⟩
end
end Toy
set_option Elab.async false
set_option linter.all false
set_option maxRecDepth 100000
set_option maxHeartbeats 4000000
/-! Games that are folded. -/
namespace Gm
open PySem L2
open PyData (strOk)
/-- the value of an operator -/
def opV (o : Str) (a b : Int) : Int :=
  if o = "+" then (a + b) % 65536 else if o = "-" then (if a - b < 0 then 0 else a - b) else if o = "*" then a * b % 65536 else if o = "/" then (if b = 0 then 0 else a / b) else
  if o = "mod" then (if b = 0 then 0 else a % b) else if o = "<" then (if a < b then 1 else 0) else (if a = b then 1 else 0)
theorem opV_ok {o : Str} {a b : Int} (ha : 0 ≤ a ∧ a ≤ 65535) (hb : 0 ≤ b ∧ b ≤ 65535) : 0 ≤ opV o a b ∧ opV o a b ≤ 65535 := by
  unfold opV
  have h1 : b ≠ 0 → 0 ≤ a / b ∧ a / b ≤ a := fun h => ⟨Int.ediv_nonneg ha.1 hb.1, Int.ediv_le_self _ ha.1⟩
  have h2 : b ≠ 0 → 0 ≤ a % b ∧ a % b < b := fun h => ⟨Int.emod_nonneg _ h, Int.emod_lt_of_pos _ (by omega)⟩
  have h3 := Int.emod_nonneg (a * b) (by decide : (65536 : Int) ≠ 0)
  have h4 := Int.emod_lt_of_pos (a * b) (by decide : (0 : Int) < 65536)
  split
  · omega
  split
  · split <;> omega
  split
  · omega
  split
  · split
    · omega
    · have := h1 ‹_›; omega
  split
  · split
    · omega
    · have := h2 ‹_›; omega
  split
  · split <;> omega
  · split <;> omega
/-- worked out, if it is an operator on two numbers -/
def Ex.wo : Ex → Ex
  | .op o (.num a) (.num b) => .num (opV o a b)
  | e => e
def Ex.fo : Ex → Ex
  | .num n => .num n
  | .loc x => .loc x
  | .var x => .var x
  | .has t e => .has t e.fo
  | .cell t e => .cell t e.fo
  | .op o a b => (Ex.op o a.fo b.fo).wo
theorem Ex.wo_fit {k : Nat} {e : Ex} (h : exF k e) : exF k e.wo := by
  unfold Ex.wo
  split
  · rename_i o a b
    match k, h with
    | k + 1, h =>
      match k, h with
      | 0, h => exact h.2.1.elim
      | k + 1, h => exact opV_ok h.2.1 h.2.2
  · exact h
theorem Ex.fo_fit : ∀ {k : Nat} {e : Ex}, exF k e → exF k e.fo
  | 0, _, h => h.elim
  | k + 1, .num n, h => h
  | k + 1, .loc n, h => h
  | k + 1, .var n, h => h
  | k + 1, .has t e, h => ⟨h.1, Ex.fo_fit h.2⟩
  | k + 1, .cell t e, h => ⟨h.1, Ex.fo_fit h.2⟩
  | k + 1, .op o a b, h => Ex.wo_fit (k := k + 1) (e := .op o a.fo b.fo) ⟨h.1, Ex.fo_fit h.2.1, Ex.fo_fit h.2.2⟩
/-- a statement with its own expressions folded -/
def Stm.wx : Stm → Stm
  | .set x e => .set x e.fo
  | .lt l e => .lt l e.fo
  | .draw l n => .draw l n
  | .put t e f => .put t e.fo f.fo
  | .lot l o e => .lot l o e.fo
  | .ask l p e => .ask l p e.fo
  | .ite e a b => .ite e.fo a b
  | .bad => .bad
  | .after a => .after a
open Classical in
/-- what an if becomes -/
noncomputable def iteL (t : Ex) (a b : Blk) : List Stm := if a = b then a.l else match t with
  | .num n => if n = 0 then b.l else a.l
  | _ => [.ite t a b]
/-- the statements that a statement becomes -/
noncomputable def Stm.fst (s : Stm) : List Stm := match s.wx with
  | .ite t a b => iteL t a b
  | x => [x]
mutual
noncomputable def Stm.wcb : Stm → Stm
  | .ite e a b => .ite e a.fo b.fo
  | .after a => .after a.fo
  | .set x e => .set x e
  | .lt x e => .lt x e
  | .draw l n => .draw l n
  | .put t e f => .put t e f
  | .lot l o e => .lot l o e
  | .ask l o e => .ask l o e
  | .bad => .bad
noncomputable def Blk.fo : Blk → Blk
  | .nil => .nil
  | .cons s r => Blk.of (s.wcb.fst ++ r.fo.l)
end
noncomputable def Pr.fo (p : Pr) : Pr := { p with block := p.block.fo, res := p.res.fo }
noncomputable def Ga.fo (G : Ga) : Ga := { G with procs := G.procs.map Pr.fo }
theorem Blk.fo_l : ∀ b : Blk, b.fo.l = b.l.flatMap fun s => s.wcb.fst
  | .nil => by unfold Blk.fo Blk.l; rfl
  | .cons s r => by
    unfold Blk.fo
    rw [Blk.l_of, Blk.fo_l r]
    show _ = (s :: r.l).flatMap _
    rw [List.flatMap_cons]
/-! ### how many statements there are in all -/
mutual
def Stm.tot : Stm → Nat
  | .ite _ a b => 1 + a.tot + b.tot
  | .after a => 1 + a.tot
  | _ => 1
def Blk.tot : Blk → Nat
  | .nil => 0
  | .cons s r => s.tot + r.tot
end
theorem Stm.tot_pos (s : Stm) : 1 ≤ s.tot := by cases s <;> (unfold Stm.tot; omega)
theorem iteL_len (t : Ex) (a b : Blk) : (iteL t a b).length ≤ 1 + a.l.length + b.l.length := by
  unfold iteL
  split
  · omega
  · split
    · split <;> omega
    · show 1 ≤ _; omega
theorem fst_len {s : Stm} (h : ∀ e a b, s ≠ .ite e a b) : s.fst = [s.wx] := by
  cases s <;> first | rfl | exact absurd rfl (h _ _ _)
mutual
theorem Stm.fst_tot : ∀ s : Stm, s.wcb.fst.length ≤ s.tot
  | .ite e a b => by
    have h1 := Blk.fo_tot a
    have h2 := Blk.fo_tot b
    unfold Stm.wcb Stm.tot
    show (iteL e.fo a.fo b.fo).length ≤ _
    have := iteL_len e.fo a.fo b.fo
    omega
  | .after a => by unfold Stm.wcb Stm.tot; show 1 ≤ _; omega
  | .set _ _ => by unfold Stm.wcb Stm.tot; exact Nat.le_refl _
  | .lt _ _ => by unfold Stm.wcb Stm.tot; exact Nat.le_refl _
  | .draw _ _ => by unfold Stm.wcb Stm.tot; exact Nat.le_refl _
  | .put _ _ _ => by unfold Stm.wcb Stm.tot; exact Nat.le_refl _
  | .lot _ _ _ => by unfold Stm.wcb Stm.tot; exact Nat.le_refl _
  | .ask _ _ _ => by unfold Stm.wcb Stm.tot; exact Nat.le_refl _
  | .bad => by unfold Stm.wcb Stm.tot; exact Nat.le_refl _
theorem Blk.fo_tot : ∀ b : Blk, b.fo.l.length ≤ b.tot
  | .nil => by unfold Blk.fo Blk.l; exact Nat.zero_le _
  | .cons s r => by
    have h1 := Stm.fst_tot s
    have h2 := Blk.fo_tot r
    unfold Blk.fo Blk.tot
    rw [Blk.l_of, List.length_append]
    omega
end
theorem iteL_fit {k d : Nat} {t : Ex} {a b : Blk} (ht : exF k t) (ha : blF k d a) (hb : blF k d b) (la : a.len ≤ 50 * k + 50) (lb : b.len ≤ 50 * k + 50) : ∀ x ∈ iteL t a b, stF k (d + 1) x := by
  intro x hx
  unfold iteL at hx
  have la' : ∀ x ∈ a.l, stF k (d + 1) x := fun x h => stF.mono (Nat.le_refl _) (blF.l ha x h) (by omega)
  have lb' : ∀ x ∈ b.l, stF k (d + 1) x := fun x h => stF.mono (Nat.le_refl _) (blF.l hb x h) (by omega)
  split at hx
  · exact la' x hx
  · split at hx
    · split at hx
      · exact lb' x hx
      · exact la' x hx
    · rw [List.mem_singleton.mp hx]
      unfold stF
      exact ⟨ht, ha, hb, la, lb⟩
mutual
theorem Stm.fst_fit {k : Nat} : ∀ {d : Nat} {s : Stm}, stF k d s → s.tot ≤ 50 * k + 50 → ∀ x ∈ s.wcb.fst, stF k d x
  | 0, .ite _ _ _, h, _, _, _ => by unfold stF at h; exact h.elim
  | d + 1, .ite e a b, h, ht, x, hx => by
    unfold Stm.tot at ht
    unfold stF at h
    unfold Stm.wcb at hx
    have l1 := Blk.fo_tot a
    have l2 := Blk.fo_tot b
    rw [Blk.len_l] at l1 l2
    exact iteL_fit (Ex.fo_fit h.1) (Blk.fo_fit h.2.1 (by omega)) (Blk.fo_fit h.2.2.1 (by omega)) (by omega) (by omega) x hx
  | 0, .after _, h, _, _, _ => by unfold stF at h; exact h.elim
  | d + 1, .after a, h, ht, x, hx => by
    unfold Stm.tot at ht
    unfold stF at h
    unfold Stm.wcb at hx
    have l1 := Blk.fo_tot a
    rw [Blk.len_l] at l1
    rw [List.mem_singleton.mp hx]
    show stF k (d + 1) (.after a.fo)
    unfold stF
    exact ⟨Blk.fo_fit h.1 (by omega), by omega⟩
  | d, .set y e, h, _, x, hx => by
    unfold Stm.wcb at hx
    rw [List.mem_singleton.mp hx]
    show stF k d (.set y e.fo)
    unfold stF at h ⊢
    exact ⟨h.1, Ex.fo_fit h.2⟩
  | d, .lt y e, h, _, x, hx => by
    unfold Stm.wcb at hx
    rw [List.mem_singleton.mp hx]
    show stF k d (.lt y e.fo)
    unfold stF at h ⊢
    exact ⟨h.1, Ex.fo_fit h.2⟩
  | d, .draw y e, h, _, x, hx => by
    unfold Stm.wcb at hx
    rw [List.mem_singleton.mp hx]
    exact h
  | d, .put y e f, h, _, x, hx => by
    unfold Stm.wcb at hx
    rw [List.mem_singleton.mp hx]
    show stF k d (.put y e.fo f.fo)
    unfold stF at h ⊢
    exact ⟨h.1, Ex.fo_fit h.2.1, Ex.fo_fit h.2.2⟩
  | d, .lot y o e, h, _, x, hx => by
    unfold Stm.wcb at hx
    rw [List.mem_singleton.mp hx]
    show stF k d (.lot y o e.fo)
    unfold stF at h ⊢
    exact ⟨h.1, h.2.1, Ex.fo_fit h.2.2⟩
  | d, .ask y o e, h, _, x, hx => by
    unfold Stm.wcb at hx
    rw [List.mem_singleton.mp hx]
    show stF k d (.ask y o e.fo)
    unfold stF at h ⊢
    exact ⟨h.1, h.2.1, Ex.fo_fit h.2.2⟩
  | d, .bad, h, _, x, hx => by
    unfold Stm.wcb at hx
    rw [List.mem_singleton.mp hx]
    exact h
theorem Blk.fo_fit {k : Nat} : ∀ {d : Nat} {b : Blk}, blF k d b → b.tot ≤ 50 * k + 50 → blF k d b.fo
  | d, .nil, _, _ => by unfold Blk.fo blF; trivial
  | d, .cons s r, h, ht => by
    unfold Blk.tot at ht
    unfold blF at h
    unfold Blk.fo
    refine blF.of fun x hx => ?_
    rcases List.mem_append.mp hx with hx | hx
    · exact Stm.fst_fit h.1 (by omega) x hx
    · exact blF.l (Blk.fo_fit h.2 (by omega)) x hx
end
end Gm
set_option Elab.async false
set_option linter.all false
set_option maxRecDepth 100000
set_option maxHeartbeats 2000000
/-! Statements and games: what is read. -/
namespace Pz
open PySem L2 Gm
/-- a part of a statement -/
inductive Pt where
  | s (x : Str) | n (v : Int) | e (x : Ex)
def Pt.d : Pt → PyData
  | .s x => .str x
  | .n v => .int v
  | .e x => x.d
theorem Pt.nol : ∀ x : Pt, nol x.d = true
  | .s _ => rfl
  | .n _ => rfl
  | .e x => Ex.nol x
def kindNames (s : Sc) (k : Str) : Option (List Str) := if k = "variable" then some s.vars else if k = "local" then some s.locs else if k = "table" then some s.tabs else if k = "lots" then some s.lots else if k = "asked" then some s.asks else none
def forms : List (Str × List Str) := [("set", ["variable", "expression"]), ("let", ["local", "expression"]), ("draw", ["local", "number"]), ("put", ["table", "expression", "expression"]), ("lot", ["local", "lots", "expression"]), ("ask", ["local", "asked", "expression"]), ("bad", [])]
def words : List Str := ["set", "let", "draw", "put", "lot", "ask", "bad"]
def formOf (w : Str) : List Str := (forms.lookup w).getD []
def canFollow (s : Sc) (k : Str) : Bool := match kindNames s k with
  | none => true
  | some xs => decide (0 < xs.length)
def startsOf (s : Sc) : List Str := words.filter fun w => (formOf w).all (canFollow s)
/-- whether a statement with this first word may stand where k more levels are left -/
def can (s : Sc) (k : Nat) (w : Str) : Bool := if w = "if" ∨ w = "after" then decide (0 < k) else decide (w ∈ startsOf s)
section
variable (ws : List Str) (s : Sc)
def pPart (k : Str) (i : Nat) : Except Nat (Pt × Nat) :=
  if k = "expression" then (match pExpr ws s 7 i with
    | .error j => .error j
    | .ok (e, j) => .ok (.e e, j))
  else if k = "number" then (if (isNum (wd ws i) && decide ((1 : Int) ≤ (numW (wd ws i) : Nat) ∧ ((numW (wd ws i) : Nat) : Int) ≤ 64)) = true then .ok (.n (numW (wd ws i) : Nat), i + 1) else .error i)
  else match kindNames s k with
    | some xs => if decide (wd ws i ∈ xs) = true then .ok (.s (wd ws i), i + 1) else .error i
    | none => .error i
def pParts : List Str → Nat → Except Nat (List Pt × Nat)
  | [], i => .ok ([], i)
  | k :: ks, i => match pPart ws s k i with
    | .error j => .error j
    | .ok (x, j) => match pParts ks j with
      | .error m => .error m
      | .ok (xs, m) => .ok (x :: xs, m)
def mkStm (w : Str) (xs : List Pt) : Stm :=
  if w = "set" then (match xs with | [.s x, .e v] => .set x v | _ => .bad)
  else if w = "let" then (match xs with | [.s x, .e v] => .lt x v | _ => .bad)
  else if w = "draw" then (match xs with | [.s x, .n v] => .draw x v | _ => .bad)
  else if w = "put" then (match xs with | [.s x, .e v, .e u] => .put x v u | _ => .bad)
  else if w = "lot" then (match xs with | [.s x, .s y, .e u] => .lot x y u | _ => .bad)
  else if w = "ask" then (match xs with | [.s x, .s y, .e u] => .ask x y u | _ => .bad)
  else .bad
def pSimple (i : Nat) : Except Nat (Stm × Nat) := match pParts ws s (formOf (wd ws i)) (i + 1) with
  | .error j => .error j
  | .ok (xs, j) => .ok (mkStm (wd ws i) xs, j)
/-- statements as long as one can begin, at most f of them -/
def pLoop (st : Nat → Except Nat (Stm × Nat)) (k : Nat) : Nat → Nat → Except Nat (Blk × Nat)
  | 0, i => .ok (.nil, i)
  | f + 1, i => if can s k (wd ws i) = true then (match st i with
      | .error j => .error j
      | .ok (x, j) => match pLoop st k f j with
        | .error m => .error m
        | .ok (b, m) => .ok (.cons x b, m))
    else .ok (.nil, i)
def pChoice (blk : Nat → Except Nat (Blk × Nat)) (i : Nat) : Except Nat (Stm × Nat) :=
  match pExpr ws s 7 i with
  | .error j => .error j
  | .ok (t, j) => match blk j with
    | .error m => .error m
    | .ok (a, m) => if wd ws m = "end" then .ok (.ite t a .nil, m + 1)
      else if wd ws m = "else" then (match blk (m + 1) with
        | .error q => .error q
        | .ok (b, q) => if b.len = 0 then .error q else if wd ws q = "end" then .ok (.ite t a b, q + 1) else .error q)
      else .error m
def pAfter (blk : Nat → Except Nat (Blk × Nat)) (i : Nat) : Except Nat (Stm × Nat) :=
  match blk i with
  | .error m => .error m
  | .ok (a, m) => if wd ws m = "end" then .ok (.after a, m + 1) else .error m
def pStm : Nat → Nat → Except Nat (Stm × Nat)
  | 0, i => pSimple ws s i
  | k + 1, i => if wd ws i = "if" then pChoice ws s (pLoop ws s (pStm k) k ws.length) (i + 1)
    else if wd ws i = "after" then pAfter ws (pLoop ws s (pStm k) k ws.length) (i + 1)
    else pSimple ws s i
def pBlk (k : Nat) : Nat → Except Nat (Blk × Nat) := pLoop ws s (pStm ws s k) k ws.length
end
/-! ### they go on -/
section
variable {ws : List Str} {s : Sc}
theorem pAtom_lt {i j : Nat} {e : Ex} (h : pAtom ws s i = .ok (e, j)) : i < j := by
  unfold pAtom at h
  split at h
  · cases h; omega
  · split at h
    · cases h; omega
    · split at h
      · cases h; omega
      · cases h
theorem pExpr_lt : ∀ {k i j : Nat} {e : Ex}, pExpr ws s k i = .ok (e, j) → i < j
  | 0, i, j, e, h => pAtom_lt h
  | k + 1, i, j, e, h => by
    unfold pExpr at h
    split at h
    · split at h
      · cases h
      · rename_i h1
        have l1 := pExpr_lt h1
        split at h
        · cases h
        · rename_i h2
          have l2 := pExpr_lt h2
          cases h
          omega
    · split at h
      · split at h
        · split at h
          · cases h
          · rename_i h1
            have l1 := pExpr_lt h1
            cases h
            omega
        · cases h
      · exact pAtom_lt h
theorem pPart_lt {k : Str} {i j : Nat} {x : Pt} (h : pPart ws s k i = .ok (x, j)) : i < j := by
  unfold pPart at h
  split at h
  · split at h
    · cases h
    · rename_i h1
      have := pExpr_lt h1
      cases h
      omega
  · split at h
    · split at h
      · cases h; omega
      · cases h
    · split at h
      · split at h
        · cases h; omega
        · cases h
      · cases h
theorem pParts_le : ∀ {ks : List Str} {i j : Nat} {xs : List Pt}, pParts ws s ks i = .ok (xs, j) → i ≤ j
  | [], i, j, xs, h => by unfold pParts at h; cases h; exact Nat.le_refl _
  | k :: ks, i, j, xs, h => by
    unfold pParts at h
    split at h
    · cases h
    · rename_i h1
      have l1 := pPart_lt h1
      split at h
      · cases h
      · rename_i h2
        have l2 := pParts_le h2
        cases h
        omega
theorem pSimple_lt {i j : Nat} {x : Stm} (h : pSimple ws s i = .ok (x, j)) : i < j := by
  unfold pSimple at h
  split at h
  · cases h
  · rename_i h1
    have := pParts_le h1
    cases h
    omega
theorem pLoop_le {st : Nat → Except Nat (Stm × Nat)} {k : Nat} (hst : ∀ i j x, st i = .ok (x, j) → i ≤ j) : ∀ {f i j : Nat} {b : Blk}, pLoop ws s st k f i = .ok (b, j) → i ≤ j
  | 0, i, j, b, h => by unfold pLoop at h; cases h; exact Nat.le_refl _
  | f + 1, i, j, b, h => by
    unfold pLoop at h
    split at h
    · split at h
      · cases h
      · rename_i h1
        have l1 := hst _ _ _ h1
        split at h
        · cases h
        · rename_i h2
          have l2 := pLoop_le hst h2
          cases h
          omega
    · cases h; exact Nat.le_refl _
theorem pStm_lt : ∀ {k i j : Nat} {x : Stm}, pStm ws s k i = .ok (x, j) → i < j
  | 0, i, j, x, h => pSimple_lt h
  | k + 1, i, j, x, h => by
    have lb : ∀ {i j : Nat} {b : Blk}, pLoop ws s (pStm ws s k) k ws.length i = .ok (b, j) → i ≤ j := fun h => pLoop_le (fun i j x e => Nat.le_of_lt (pStm_lt e)) h
    unfold pStm at h
    split at h
    · unfold pChoice at h
      split at h
      · cases h
      · rename_i h1
        have l1 := pExpr_lt h1
        split at h
        · cases h
        · rename_i h2
          have l2 := lb h2
          split at h
          · cases h; omega
          · split at h
            · split at h
              · cases h
              · rename_i h3
                have l3 := lb h3
                split at h
                · cases h
                · split at h
                  · cases h; omega
                  · cases h
            · cases h
    · split at h
      · unfold pAfter at h
        split at h
        · cases h
        · rename_i h1
          have l1 := lb h1
          split at h
          · cases h; omega
          · cases h
      · exact pSimple_lt h
theorem can_ne {k i : Nat} (h : can s k (wd ws i) = true) (e1 : Str.empty ∉ startsOf s) : wd ws i ≠ Str.empty := fun z => by
  rw [z] at h
  unfold can at h
  rw [if_neg (by decide +kernel)] at h
  exact e1 (of_decide_eq_true h)
theorem empty_starts : Str.empty ∉ startsOf s := fun h => by
  have := (List.mem_filter.mp h).1
  exact absurd this (by decide +kernel)
end
/-! ### how a reading ends -/
def GEnd {α : Type} (d : α → PyData) (C B : Addr) (K : PySem.W.Frag) (p l : Addr) (ws : List Str) (H : Hp) (Q : VK) (E : XK) : Except Nat (α × Nat) → Prop
  | .ok (x, j) => ∀ v H', But p H H' → WAt C H' p l ws j → Dp K H' v (d x) → Q v H'
  | .error j => Ref p B H j E
end Pz
set_option Elab.async false
set_option linter.all false
set_option maxRecDepth 100000
set_option maxHeartbeats 4000000
/-! Statements by their parts; two tuples walked side by side. -/
namespace Gm
open PySem L2
open PyData (strOk)
theorem zipT {K : PySem.W.Frag} {a b : Addr} {xs ys : List V} {n : Nat} (hn : n = min xs.length ys.length) : Walk (RZ.ItzT K a b) n (fun H => SqT K H a xs ∧ SqT K H b ys) (YPair (fun i => xs[i]?) (fun i => ys[i]?)) := by
  subst hn
  refine ⟨fun i _ hi q => ?_, fun _ q => ⟨xs, ys, q.1, q.2, by omega⟩, fun i H v H' _ q y => ?_⟩
  · exact ⟨xs, ys, xs[i]'(by omega), ys[i]'(by omega), q.1, q.2, List.getElem?_eq_getElem _, List.getElem?_eq_getElem _⟩
  · obtain ⟨T, x, z, h1, h2, h3, h4, h5⟩ := y
    exact ⟨T, x, z, h1, h2, h3, h4 xs q.1, h5 ys q.2⟩
theorem cut_tl (x : V) (xs : List V) : cutV (x :: xs) (some 1) none = xs := by
  have := cut_drop (x :: xs) 1
  exact this
inductive Pa where
  | e (x : Ex) | o (d : PyData)
def Pa.d : Pa → PyData
  | .e x => x.d
  | .o d => d
def Pa.fo : Pa → Pa
  | .e x => .e x.fo
  | .o d => .o d
def Stm.pas : Stm → List Pa
  | .set x e => [.o (.str x), .e e]
  | .lt l e => [.o (.str l), .e e]
  | .draw l n => [.o (.str l), .o (.int n)]
  | .put t e f => [.o (.str t), .e e, .e f]
  | .lot l o e => [.o (.str l), .o (.str o), .e e]
  | .ask l p e => [.o (.str l), .o (.str p), .e e]
  | _ => []
def Stm.sim : Stm → Bool
  | .ite _ _ _ => false
  | .after _ => false
  | _ => true
theorem pas_args {s : Stm} (h : s.sim = true) : s.args = s.pas.map Pa.d := by
  cases s <;> first | rfl | cases h
theorem wx_args {s : Stm} (h : s.sim = true) : s.wx.kind = s.kind ∧ s.wx.args = s.pas.map fun p => p.fo.d := by
  cases s <;> first | exact ⟨rfl, rfl⟩ | cases h
theorem sim_kind {s : Stm} (h : s.sim = true) : s.kind ∈ Pz.words ∧ s.kind ≠ "if" ∧ s.kind ≠ "after" := by
  cases s <;> first | (dsimp only [Stm.kind]; decide +kernel) | cases h
theorem fitL {α β : Type} {R : α → β → Prop} : ∀ {as : List α} {bs : List β}, as.length = bs.length → (∀ p ∈ as.zip bs, R p.1 p.2) → ∀ (i : Nat) x y, as[i]? = some x → bs[i]? = some y → R x y
  | [], _, _, _, i, x, y, e, _ => by simp at e
  | _ :: _, [], h, _, _, _, _, _, _ => by simp at h
  | a :: as, b :: bs, h, q, 0, x, y, e1, e2 => by
    obtain rfl : a = x := Option.some.inj e1
    obtain rfl : b = y := Option.some.inj e2
    exact q (a, b) (by simp)
  | a :: as, b :: bs, h, q, i + 1, x, y, e1, e2 => fitL (as := as) (bs := bs) (by simpa using h) (fun p hp => q p (by simp [hp])) i x y e1 e2
def isE : Str → Pa → Prop := fun k p => (k = "expression" ∧ ∃ x, p = .e x) ∨ (k ≠ "expression" ∧ ∃ d, p = .o d)
theorem pas_form {s : Stm} (h : s.sim = true) : (Pz.formOf s.kind).length = s.pas.length ∧ ∀ (i : Nat) k p, (Pz.formOf s.kind)[i]? = some k → s.pas[i]? = some p → isE k p := by
  have f1 : Pz.formOf "set" = (["variable", "expression"] : List Str) := by decide +kernel
  have f2 : Pz.formOf "let" = (["local", "expression"] : List Str) := by decide +kernel
  have f3 : Pz.formOf "draw" = (["local", "number"] : List Str) := by decide +kernel
  have f4 : Pz.formOf "put" = (["table", "expression", "expression"] : List Str) := by decide +kernel
  have f5 : Pz.formOf "lot" = (["local", "lots", "expression"] : List Str) := by decide +kernel
  have f6 : Pz.formOf "ask" = (["local", "asked", "expression"] : List Str) := by decide +kernel
  have f7 : Pz.formOf "bad" = ([] : List Str) := by decide +kernel
  have nv : ("variable" : Str) ≠ "expression" := by decide +kernel
  have nl : ("local" : Str) ≠ "expression" := by decide +kernel
  have nn : ("number" : Str) ≠ "expression" := by decide +kernel
  have nt : ("table" : Str) ≠ "expression" := by decide +kernel
  have no : ("lots" : Str) ≠ "expression" := by decide +kernel
  have na : ("asked" : Str) ≠ "expression" := by decide +kernel
  have E : ∀ x, isE "expression" (.e x) := fun x => .inl ⟨rfl, x, rfl⟩
  have O : ∀ (k : Str) (d : PyData), k ≠ "expression" → isE k (.o d) := fun k d hk => .inr ⟨hk, d, rfl⟩
  cases s with
  | set x e =>
    refine ⟨by show (Pz.formOf "set").length = _; rw [f1]; rfl, ?_⟩
    show ∀ (i : Nat) k p, (Pz.formOf "set")[i]? = some k → _ → _
    rw [f1]
    refine fitL rfl fun p hp => ?_
    simp only [List.zip_cons_cons, List.zip_nil_right, List.mem_cons, List.not_mem_nil, or_false, Stm.pas] at hp
    rcases hp with rfl | rfl
    · exact O _ _ nv
    · exact E _
  | lt x e =>
    refine ⟨by show (Pz.formOf "let").length = _; rw [f2]; rfl, ?_⟩
    show ∀ (i : Nat) k p, (Pz.formOf "let")[i]? = some k → _ → _
    rw [f2]
    refine fitL rfl fun p hp => ?_
    simp only [List.zip_cons_cons, List.zip_nil_right, List.mem_cons, List.not_mem_nil, or_false, Stm.pas] at hp
    rcases hp with rfl | rfl
    · exact O _ _ nl
    · exact E _
  | draw x e =>
    refine ⟨by show (Pz.formOf "draw").length = _; rw [f3]; rfl, ?_⟩
    show ∀ (i : Nat) k p, (Pz.formOf "draw")[i]? = some k → _ → _
    rw [f3]
    refine fitL rfl fun p hp => ?_
    simp only [List.zip_cons_cons, List.zip_nil_right, List.mem_cons, List.not_mem_nil, or_false, Stm.pas] at hp
    rcases hp with rfl | rfl
    · exact O _ _ nl
    · exact O _ _ nn
  | put x e f =>
    refine ⟨by show (Pz.formOf "put").length = _; rw [f4]; rfl, ?_⟩
    show ∀ (i : Nat) k p, (Pz.formOf "put")[i]? = some k → _ → _
    rw [f4]
    refine fitL rfl fun p hp => ?_
    simp only [List.zip_cons_cons, List.zip_nil_right, List.mem_cons, List.not_mem_nil, or_false, Stm.pas] at hp
    rcases hp with rfl | rfl | rfl
    · exact O _ _ nt
    · exact E _
    · exact E _
  | lot x o e =>
    refine ⟨by show (Pz.formOf "lot").length = _; rw [f5]; rfl, ?_⟩
    show ∀ (i : Nat) k p, (Pz.formOf "lot")[i]? = some k → _ → _
    rw [f5]
    refine fitL rfl fun p hp => ?_
    simp only [List.zip_cons_cons, List.zip_nil_right, List.mem_cons, List.not_mem_nil, or_false, Stm.pas] at hp
    rcases hp with rfl | rfl | rfl
    · exact O _ _ nl
    · exact O _ _ no
    · exact E _
  | ask x o e =>
    refine ⟨by show (Pz.formOf "ask").length = _; rw [f6]; rfl, ?_⟩
    show ∀ (i : Nat) k p, (Pz.formOf "ask")[i]? = some k → _ → _
    rw [f6]
    refine fitL rfl fun p hp => ?_
    simp only [List.zip_cons_cons, List.zip_nil_right, List.mem_cons, List.not_mem_nil, or_false, Stm.pas] at hp
    rcases hp with rfl | rfl | rfl
    · exact O _ _ nl
    · exact O _ _ na
    · exact E _
  | bad =>
    refine ⟨by show (Pz.formOf "bad").length = _; rw [f7]; rfl, ?_⟩
    show ∀ (i : Nat) k p, (Pz.formOf "bad")[i]? = some k → _ → _
    rw [f7]
    intro i k p h
    simp at h
  | ite e a b => cases h
  | after a => cases h
theorem pas_fit {k d : Nat} {s : Stm} (h : stF k d s) : ∀ (i : Nat) e, s.pas[i]? = some (.e e) → exF k e := by
  intro i e hi
  have hm := List.mem_of_getElem? hi
  cases s <;> unfold stF at h <;> simp [Stm.pas] at hm <;> first | (subst hm; exact h.2) | (rcases hm with rfl | rfl <;> first | exact h.2.1 | exact h.2.2) | (subst hm; exact h.2.2)
theorem pas_nol {s : Stm} : ∀ p ∈ s.pas, nol p.fo.d = true := by
  intro p hp
  cases s <;> simp [Stm.pas] at hp <;> rcases hp with rfl | rfl | rfl <;> first | rfl | exact Ex.nol _
theorem nolAll_stms : ∀ ss : List Stm, nolAll (ss.map Stm.d) = true
  | [] => rfl
  | s :: ss => by show (nol s.d && nolAll (ss.map Stm.d)) = true; rw [nolAll_stms ss, Stm.nol]; rfl
theorem wcb_fit {k d : Nat} {s : Stm} (h : stF k d s) (ht : s.tot ≤ 50 * k + 50) : stF k d s.wcb := by
  cases s with
  | ite e a b =>
    cases d with
    | zero => unfold stF at h; exact h.elim
    | succ d =>
      unfold Stm.tot at ht
      unfold stF at h
      unfold Stm.wcb stF
      have l1 := Blk.fo_tot a
      have l2 := Blk.fo_tot b
      rw [Blk.len_l] at l1 l2
      exact ⟨h.1, Blk.fo_fit h.2.1 (by omega), Blk.fo_fit h.2.2.1 (by omega), by omega, by omega⟩
  | after a =>
    cases d with
    | zero => unfold stF at h; exact h.elim
    | succ d =>
      unfold Stm.tot at ht
      unfold stF at h
      unfold Stm.wcb stF
      have l1 := Blk.fo_tot a
      rw [Blk.len_l] at l1
      exact ⟨Blk.fo_fit h.1 (by omega), by omega⟩
  | _ => unfold Stm.wcb; exact h
theorem wo_ne {o : Str} {x y : Ex} (h : ¬ ∃ a b, x = .num a ∧ y = .num b) : (Ex.op o x y).wo = .op o x y := by
  unfold Ex.wo
  split
  · rename_i e
    injection e with _ e1 e2
    exact absurd ⟨_, _, e1, e2⟩ h
  · rfl
theorem wo_other {e : Ex} (h : ∀ o x y, e ≠ .op o x y) : e.wo = e := by
  unfold Ex.wo
  split
  · exact absurd rfl (h _ _ _)
  · rfl
theorem num_is {k : Nat} {e : Ex} (hf : exF k e) (h : e.kind = "number") : ∃ n, e = .num n := by
  match k, e, hf with
  | 0, _, hf => exact hf.elim
  | k + 1, .num n, _ => exact ⟨n, rfl⟩
  | k + 1, .op o a b, hf => exact absurd (show ("number" : Str) ∈ ops from by rw [← (show o = "number" from h)]; exact hf.1) (by decide +kernel)
  | k + 1, .loc _, _ => exact absurd (show ("local" : Str) = "number" from h) (by decide +kernel)
  | k + 1, .var _, _ => exact absurd (show ("variable" : Str) = "number" from h) (by decide +kernel)
  | k + 1, .has _ _, _ => exact absurd (show ("has" : Str) = "number" from h) (by decide +kernel)
  | k + 1, .cell _ _, _ => exact absurd (show ("cell" : Str) = "number" from h) (by decide +kernel)
theorem blk_tot_at : ∀ {b : Blk} {s : Stm}, s ∈ b.l → s.tot ≤ b.tot
  | .nil, s, h => by unfold Blk.l at h; cases h
  | .cons x r, s, h => by
    unfold Blk.l at h
    unfold Blk.tot
    rcases List.mem_cons.mp h with rfl | h
    · omega
    · have := blk_tot_at h; omega
theorem fo_take_len : ∀ (b : Blk) (i : Nat), ((b.l.take i).flatMap fun s => s.wcb.fst).length ≤ b.tot
  | .nil, i => by unfold Blk.l; rw [List.take_nil]; exact Nat.zero_le _
  | .cons x r, 0 => by rw [List.take_zero]; exact Nat.zero_le _
  | .cons x r, i + 1 => by
    have h1 := fo_take_len r i
    have h2 := Stm.fst_tot x
    unfold Blk.l Blk.tot
    rw [List.take_succ_cons, List.flatMap_cons, List.length_append]
    omega
theorem iteL_eq {t : Ex} {a b : Blk} (h : a = b) : iteL t a b = a.l := by unfold iteL; rw [if_pos h]
theorem iteL_if {t : Ex} {a b : Blk} (h : ¬ a = b) (hn : ∀ n, t ≠ .num n) : iteL t a b = [.ite t a b] := by
  unfold iteL
  rw [if_neg h]
  split
  · exact absurd rfl (hn _)
  · rfl
theorem iteL_num {n : Int} {a b : Blk} (h : ¬ a = b) : iteL (.num n) a b = if n = 0 then b.l else a.l := by
  unfold iteL
  rw [if_neg h]
end Gm
set_option Elab.async false
set_option linter.all false
set_option maxRecDepth 100000
set_option maxHeartbeats 4000000
/-! All statements of a block; what statements read and write. -/
namespace Gm
open PySem L2
open PyData (strOk)
mutual
def Stm.all : Stm → List Stm
  | .ite e a b => .ite e a b :: (a.all ++ b.all)
  | .after a => .after a :: a.all
  | .set x e => [.set x e]
  | .lt x e => [.lt x e]
  | .draw x e => [.draw x e]
  | .put x e f => [.put x e f]
  | .lot x o e => [.lot x o e]
  | .ask x o e => [.ask x o e]
  | .bad => [.bad]
def Blk.all : Blk → List Stm
  | .nil => []
  | .cons s r => s.all ++ r.all
end
def Stm.inner : Stm → List Blk
  | .ite _ a b => [a, b]
  | .after a => [a]
  | _ => []
theorem Stm.all_eq (s : Stm) : s.all = s :: s.inner.flatMap Blk.all := by
  cases s <;> (unfold Stm.all; try rfl)
  · show _ = _ :: ([_, _] : List Blk).flatMap Blk.all
    rw [List.flatMap_cons, List.flatMap_cons, List.flatMap_nil, List.append_nil]
  · show _ = _ :: ([_] : List Blk).flatMap Blk.all
    rw [List.flatMap_cons, List.flatMap_nil, List.append_nil]
theorem Blk.all_l : ∀ b : Blk, b.all = b.l.flatMap Stm.all
  | .nil => by unfold Blk.all Blk.l; rfl
  | .cons s r => by
    unfold Blk.all Blk.l
    rw [Blk.all_l r, List.flatMap_cons]
mutual
theorem Stm.all_len : ∀ s : Stm, s.all.length = s.tot
  | .ite e a b => by unfold Stm.all Stm.tot; rw [List.length_cons, List.length_append, Blk.all_len a, Blk.all_len b]; omega
  | .after a => by unfold Stm.all Stm.tot; rw [List.length_cons, Blk.all_len a]; omega
  | .set _ _ => by unfold Stm.all Stm.tot; rfl
  | .lt _ _ => by unfold Stm.all Stm.tot; rfl
  | .draw _ _ => by unfold Stm.all Stm.tot; rfl
  | .put _ _ _ => by unfold Stm.all Stm.tot; rfl
  | .lot _ _ _ => by unfold Stm.all Stm.tot; rfl
  | .ask _ _ _ => by unfold Stm.all Stm.tot; rfl
  | .bad => by unfold Stm.all Stm.tot; rfl
theorem Blk.all_len : ∀ b : Blk, b.all.length = b.tot
  | .nil => by unfold Blk.all Blk.tot; rfl
  | .cons s r => by unfold Blk.all Blk.tot; rw [List.length_append, Stm.all_len s, Blk.all_len r]
end
mutual
theorem Stm.all_fit {k : Nat} : ∀ {d : Nat} {s : Stm}, stF k d s → ∀ x ∈ s.all, stF k d x
  | 0, .ite _ _ _, h, _, _ => by unfold stF at h; exact h.elim
  | d + 1, .ite e a b, h, x, hx => by
    unfold Stm.all at hx
    rcases List.mem_cons.mp hx with rfl | hx
    · exact h
    · unfold stF at h
      rcases List.mem_append.mp hx with hx | hx
      · exact stF.mono (Nat.le_refl _) (Blk.all_fit h.2.1 x hx) (by omega)
      · exact stF.mono (Nat.le_refl _) (Blk.all_fit h.2.2.1 x hx) (by omega)
  | 0, .after _, h, _, _ => by unfold stF at h; exact h.elim
  | d + 1, .after a, h, x, hx => by
    unfold Stm.all at hx
    rcases List.mem_cons.mp hx with rfl | hx
    · exact h
    · unfold stF at h
      exact stF.mono (Nat.le_refl _) (Blk.all_fit h.1 x hx) (by omega)
  | d, .set _ _, h, x, hx => by unfold Stm.all at hx; rw [List.mem_singleton.mp hx]; exact h
  | d, .lt _ _, h, x, hx => by unfold Stm.all at hx; rw [List.mem_singleton.mp hx]; exact h
  | d, .draw _ _, h, x, hx => by unfold Stm.all at hx; rw [List.mem_singleton.mp hx]; exact h
  | d, .put _ _ _, h, x, hx => by unfold Stm.all at hx; rw [List.mem_singleton.mp hx]; exact h
  | d, .lot _ _ _, h, x, hx => by unfold Stm.all at hx; rw [List.mem_singleton.mp hx]; exact h
  | d, .ask _ _ _, h, x, hx => by unfold Stm.all at hx; rw [List.mem_singleton.mp hx]; exact h
  | d, .bad, h, x, hx => by unfold Stm.all at hx; rw [List.mem_singleton.mp hx]; exact h
theorem Blk.all_fit {k : Nat} : ∀ {d : Nat} {b : Blk}, blF k d b → ∀ x ∈ b.all, stF k d x
  | d, .nil, _, x, hx => by unfold Blk.all at hx; cases hx
  | d, .cons s r, h, x, hx => by
    unfold Blk.all at hx
    unfold blF at h
    rcases List.mem_append.mp hx with hx | hx
    · exact Stm.all_fit h.1 x hx
    · exact Blk.all_fit h.2 x hx
end
/-! ### places -/
def Stm.own : Stm → List Ex
  | .set _ e => [e]
  | .lt _ e => [e]
  | .put _ e f => [e, f]
  | .lot _ _ e => [e]
  | .ask _ _ e => [e]
  | .ite e _ _ => [e]
  | _ => []
/-- what a statement itself reads behind its expressions -/
def Stm.rd2 : Stm → List (Str × Str)
  | .lot _ o _ => [("lots", o)]
  | .after _ => [("bad", "")]
  | _ => []
def Stm.rd (s : Stm) : List (Str × Str) := s.own.flatMap Ex.reads ++ s.rd2
def Blk.rds (b : Blk) : List (Str × Str) := b.all.flatMap Stm.rd
def Stm.wr : Stm → List (Str × Str)
  | .set x _ => [("variable", x)]
  | .lt x _ => [("local", x)]
  | .draw x _ => [("local", x)]
  | .put x _ _ => [("table", x)]
  | .lot x o _ => [("local", x), ("lots", o)]
  | .ask x _ _ => [("local", x)]
  | .bad => [("bad", "")]
  | _ => []
def Pr.rds (p : Pr) : List (Str × Str) := p.block.rds ++ p.res.reads
theorem own_fit {k d : Nat} {s : Stm} (h : stF k d s) : ∀ e ∈ s.own, exF k e := by
  intro e he
  cases s with
  | ite e a b =>
    cases d with
    | zero => unfold stF at h; exact h.elim
    | succ d => unfold stF at h; rw [List.mem_singleton.mp he]; exact h.1
  | after a => cases he
  | set x e => unfold stF at h; rw [List.mem_singleton.mp he]; exact h.2
  | lt x e => unfold stF at h; rw [List.mem_singleton.mp he]; exact h.2
  | draw x e => cases he
  | put x e f =>
    unfold stF at h
    simp only [Stm.own, List.mem_cons, List.not_mem_nil, or_false] at he
    rcases he with rfl | rfl
    · exact h.2.1
    · exact h.2.2
  | lot x o e => unfold stF at h; rw [List.mem_singleton.mp he]; exact h.2.2
  | ask x o e => unfold stF at h; rw [List.mem_singleton.mp he]; exact h.2.2
  | bad => cases he
theorem own_len (s : Stm) : s.own.length ≤ 2 := by cases s <;> simp [Stm.own]
theorem rd2_len (s : Stm) : s.rd2.length ≤ 1 := by cases s <;> simp [Stm.rd2]
theorem reads_len2 {k : Nat} {e : Ex} (h : exF k e) : e.reads.length + 1 ≤ 2 ^ k := Nat.le_trans (Nat.succ_le_succ (List.length_filterMap_le _ _)) (Ex.subs_len h)
theorem flat_len {α β : Type} {f : α → List β} {n : Nat} : ∀ {l : List α}, (∀ x ∈ l, (f x).length ≤ n) → (l.flatMap f).length ≤ l.length * n
  | [], _ => Nat.zero_le _
  | a :: l, h => by
    have h1 := h a (List.mem_cons_self ..)
    have h2 := flat_len (l := l) fun x hx => h x (List.mem_cons_of_mem _ hx)
    rw [List.flatMap_cons, List.length_append, List.length_cons, Nat.succ_mul]
    omega
theorem rd_len {k d : Nat} {s : Stm} (h : stF k d s) : s.rd.length ≤ 2 * 2 ^ k + 1 := by
  have h1 := flat_len (f := Ex.reads) (n := 2 ^ k) (l := s.own) fun e he => Nat.le_of_succ_le (reads_len2 (own_fit h e he))
  have h2 := own_len s
  have h3 := rd2_len s
  have h4 := Nat.mul_le_mul_right (2 ^ k) h2
  unfold Stm.rd
  rw [List.length_append]
  omega
theorem rds_len {k d : Nat} {b : Blk} (h : blF k d b) : b.rds.length ≤ b.tot * (2 * 2 ^ k + 1) := by
  have := flat_len (f := Stm.rd) (n := 2 * 2 ^ k + 1) (l := b.all) fun s hs => rd_len (Blk.all_fit h s hs)
  rw [Blk.all_len] at this
  exact this
theorem nolAll_blk : ∀ bs : List Blk, nolAll (bs.map Blk.d) = true
  | [] => rfl
  | b :: bs => by
    show (nol b.d && nolAll (bs.map Blk.d)) = true
    rw [nolAll_blk bs, show nol b.d = true by unfold Blk.d nol; exact Blk.nol b]
    rfl
theorem take_flat {α β : Type} {f : α → List β} : ∀ (l : List α) (i : Nat), ((l.take i).flatMap f).length ≤ (l.flatMap f).length
  | [], i => by rw [List.take_nil]; exact Nat.le_refl _
  | a :: l, 0 => by rw [List.take_zero]; exact Nat.zero_le _
  | a :: l, i + 1 => by
    have := take_flat (f := f) l i
    rw [List.take_succ_cons, List.flatMap_cons, List.flatMap_cons, List.length_append, List.length_append]
    omega
theorem all_take (b : Blk) (i : Nat) : ((b.l.take i).flatMap Stm.all).length ≤ b.tot := by
  have := take_flat (f := Stm.all) b.l i
  rw [← Blk.all_l, Blk.all_len] at this
  exact this
theorem inner_take (s : Stm) (i : Nat) : ((s.inner.take i).flatMap Blk.all).length ≤ s.tot := by
  have h := take_flat (f := Blk.all) s.inner i
  have e := Stm.all_len s
  rw [Stm.all_eq, List.length_cons] at e
  omega
theorem inner_fit {k d : Nat} {s : Stm} (h : stF k d s) : ∀ b ∈ s.inner, ∃ j, d = j + 1 ∧ blF k j b ∧ b.tot ≤ s.tot := by
  intro b hb
  cases s with
  | ite e x y =>
    cases d with
    | zero => unfold stF at h; exact h.elim
    | succ d =>
      unfold stF at h
      refine ⟨d, rfl, ?_⟩
      simp only [Stm.inner, List.mem_cons, List.not_mem_nil, or_false] at hb
      unfold Stm.tot
      rcases hb with rfl | rfl
      · exact ⟨h.2.1, by omega⟩
      · exact ⟨h.2.2.1, by omega⟩
  | after x =>
    cases d with
    | zero => unfold stF at h; exact h.elim
    | succ d =>
      unfold stF at h
      refine ⟨d, rfl, ?_⟩
      simp only [Stm.inner, List.mem_cons, List.not_mem_nil, or_false] at hb
      unfold Stm.tot
      rw [hb]
      exact ⟨h.1, by omega⟩
  | _ => cases hb
theorem ite_is {s : Stm} (h : s.kind = "if") : ∃ t a b, s = .ite t a b := by
  cases s <;> first | exact ⟨_, _, _, rfl⟩ | (dsimp only [Stm.kind] at h; exact absurd h (by decide +kernel))
theorem after_is {s : Stm} (h : s.kind = "after") : ∃ a, s = .after a := by
  cases s <;> first | exact ⟨_, rfl⟩ | (dsimp only [Stm.kind] at h; exact absurd h (by decide +kernel))
end Gm
set_option Elab.async false
set_option linter.all false
set_option maxRecDepth 100000
set_option maxHeartbeats 4000000
namespace Toy
open PySem L2 NdefX Gm
open Mine hiding same_new
/-- the written dict of forms -/
def FormsX (K : PySem.W.Frag) (w : World) (a : Addr) : Prop := ∀ x ∈ Pz.words, ∃ b, KDct K w a x (.ref b) ∧ ∀ H, SqT K H b ((Pz.formOf x).map V.str)
theorem none_of {H H' : Hp} {D : Addr} (m : Same H H') (h : H' D = none) : H D = none := by
  cases e : H D with
  | none => rfl
  | some o => rw [m _ _ e] at h; cases h
def spInner (K : PySem.W.Frag) : Sp := fun vs H Q _ => ∃ (v : V) (s : Stm), vs = [v] ∧ Dp K H v s.d ∧ ∀ (L : Addr) (us : List V) (H' : Hp), H L = none → Same H H' → H' L = some (.lst us) → DpAll K H' us (s.inner.map Blk.d) → Q (.ref L) H'
def spES (K : PySem.W.Frag) (k d : Nat) : Sp := fun vs H Q _ => ∃ (v : V) (b : Blk), vs = [v] ∧ Dp K H v b.d ∧ blF k d b ∧ b.tot ≤ 700 ∧ ∀ (L : Addr) (us : List V) (H' : Hp), H L = none → Same H H' → H' L = some (.lst us) → DpAll K H' us (b.all.map Stm.d) → Q (.ref L) H'
def spOwnE (K : PySem.W.Frag) : Sp := fun vs H Q _ => ∃ (v : V) (s : Stm), vs = [v] ∧ Dp K H v s.d ∧ ∀ (L : Addr) (us : List V) (H' : Hp), H L = none → Same H H' → H' L = some (.lst us) → DpAll K H' us (s.own.map Ex.d) → Q (.ref L) H'
def spBR (K : PySem.W.Frag) (k d : Nat) : Sp := fun vs H Q _ => ∃ (v : V) (b : Blk), vs = [v] ∧ Dp K H v b.d ∧ blF k d b ∧ k ≤ 6 ∧ b.tot ≤ 700 ∧ ∀ (L : Addr) (us : List V) (H' : Hp), H L = none → Same H H' → H' L = some (.lst us) → DpAll K H' us (b.rds.map plD) → Q (.ref L) H'
def spOwnW (K : PySem.W.Frag) : Sp := fun vs H Q _ => ∃ (v : V) (s : Stm), vs = [v] ∧ Dp K H v s.d ∧ ∀ (L : Addr) (us : List V) (H' : Hp), H L = none → Same H H' → H' L = some (.lst us) → DpAll K H' us (s.wr.map plD) → Q (.ref L) H'
def Pa.ex : Pa → Option Ex
  | .e x => some x
  | .o _ => none
theorem own_pas {s : Stm} (h : s.sim = true) : s.own = s.pas.filterMap Pa.ex := by
  cases s <;> first | rfl | cases h
section
variable {P : Program} {w : World} {K : PySem.W.Frag} {mg : Str → Option Value} {base : Heap} {file : Str}
theorem ok_inner (T : Txt K mg file) : FnOk P w K mg base CX0 1 T.a_inner_blocks T.fd_inner_blocks ["statement"] (spInner K) := by
  refine T.F_inner_blocks.ok sc_inner_blocks (fun vs H Q E h => ?_) (fun cdv A outer s H vs Q E hr h => ?_)
  · obtain ⟨v, s, rfl, _⟩ := h
    rfl
  obtain ⟨v, x, rfl, dx, q⟩ := h
  refine ⟨_, (pss_cons (ps_if (pt_cmpR op_eq (pe_ix ix_tup (pv 0) pe_int (fun _ _ => rfl)) pe_str (nomark _))
      (pss_one (ps_ret (pe_lst (pa_cons (pe_ix ix_tup (pv 0) pe_int (fun _ _ => rfl)) (pa_cons (pe_ix ix_tup (pv 0) pe_int (fun _ _ => rfl)) pa_nil)))))
      pss_nil)
    (pss_cons (ps_if (pt_cmpR op_eq (pe_ix ix_tup (pv 0) pe_int (fun _ _ => rfl)) pe_str (nomark _))
      (pss_one (ps_ret (pe_lst (pa_cons (pe_ix ix_tup (pv 0) pe_int (fun _ _ => rfl)) pa_nil))))
      pss_nil)
    (pss_one (ps_ret (pe_lst pa_nil))))), ?_⟩
  obtain ⟨a, rr, rfl, ha, dr⟩ := stm_inv dx
  refine ⟨_, rfl, a, _, 0, _, rfl, rfl, ha, atI_nat (j := 0) rfl, rfl, _, rfl, ?_⟩
  by_cases ci : x.kind = "if"
  · refine iteT2 (by simp [ci]) ?_
    obtain ⟨t, fa, fb, rfl⟩ := ite_is ci
    obtain ⟨v1, _, rfl, d1, dr⟩ := dps_cons dr
    obtain ⟨v2, _, rfl, d2, dr⟩ := dps_cons dr
    obtain ⟨v3, _, rfl, d3, dr⟩ := dps_cons dr
    have e0 := dps_nil dr
    subst e0
    refine ⟨_, rfl, a, _, 2, _, rfl, rfl, ha, atI_nat (j := 2) rfl, _, rfl, a, _, 3, _, rfl, rfl, ha, atI_nat (j := 3) rfl, by show 2 ≤ sizeLine; decide, fun L hL => ?_⟩
    have m := same_new hL (.lst [v2, v3])
    exact q L _ _ hL m upd_same (.cons (dp_mono m _ _ d2) (.cons (dp_mono m _ _ d3) .nil))
  refine iteF2 (by simp [ci]) ⟨_, rfl, a, _, 0, _, rfl, rfl, ha, atI_nat (j := 0) rfl, rfl, _, rfl, ?_⟩
  by_cases ca : x.kind = "after"
  · refine iteT2 (by simp [ca]) ?_
    obtain ⟨fa, rfl⟩ := after_is ca
    obtain ⟨v1, _, rfl, d1, dr⟩ := dps_cons dr
    have e0 := dps_nil dr
    subst e0
    refine ⟨_, rfl, a, _, 1, _, rfl, rfl, ha, atI_nat (j := 1) rfl, by show 1 ≤ sizeLine; decide, fun L hL => ?_⟩
    have m := same_new hL (.lst [v1])
    exact q L _ _ hL m upd_same (.cons (dp_mono m _ _ d1) .nil)
  refine iteF2 (by simp [ca]) ⟨by show 0 ≤ sizeLine; decide, fun L hL => ?_⟩
  refine q L _ _ hL (same_new hL _) upd_same ?_
  have e : x.inner = [] := by cases x <;> first | rfl | exact absurd rfl ci | exact absurd rfl ca
  rw [e]
  exact .nil
theorem ok_es_step (T : Txt K mg file) (k d : Nat) (spB : Sp) (G_every_statement : FnOk P w K mg base CX0 (d + 1) T.a_every_statement T.fd_every_statement ["block"] spB) (hB : ∀ j, d = j + 1 → ∀ vs H Q E, spES K k j vs H Q E → spB vs H Q E) :
    FnOk P w K mg base CX0 (d + 2) T.a_every_statement T.fd_every_statement ["block"] (spES K k d) := by
  have G_inner_blocks : FnOk P w K mg base CX0 1 T.a_inner_blocks T.fd_inner_blocks ["statement"] (spInner K) := ok_inner T
  refine T.F_every_statement.ok sc_every_statement (fun vs H Q E h => ?_) (fun cdv A outer s H vs Q E hr h => ?_)
  · obtain ⟨v, b, rfl, _⟩ := h
    rfl
  obtain ⟨v, b, rfl, dv, bf, ht, q⟩ := h
  refine ⟨_, (pss_cons (ps_set (i := 1) sc_every_statement.nd rfl (Or.inl rfl) (pe_lst pa_nil))
    (pss_cons (ps_for PassesOwn.never rfl (pi_tup (pv 0)) (pg_name (i := 2) sc_every_statement.nd rfl (Or.inl rfl))
      (pss_cons (ps_expr (pe_bm PySem.F.plainAttrs_list PySem.F.slot_list_append PySem.F.type_list_append mt_append (pv 1) (pa_cons (pv 2) pa_nil)))
    (pss_one (ps_for PassesOwn.never rfl (pi_list (pe_call G_inner_blocks (hr.mono (by omega)) rfl T.g_inner_blocks T.k_inner_blocks T.b_inner_blocks .nil pass0 (pa_cons (pv 2) pa_nil))) (pg_name (i := 3) sc_every_statement.nd rfl (Or.inl rfl))
      (pss_one (ps_expr (pe_bm PySem.F.plainAttrs_list PySem.F.slot_list_extend PySem.F.type_list_extend mt_extend (pv 1) (pa_cons (pe_call G_every_statement (hr.mono (by omega)) rfl T.g_every_statement T.k_every_statement T.b_every_statement .nil pass0 (pa_cons (pv 3) pa_nil)) pa_nil))))))))
    (pss_one (ps_ret (pv 1))))), ?_⟩
  unfold Blk.d at dv
  obtain ⟨a, xs, rfl, ha, dxs⟩ := dp_inv dv
  rw [Blk.ds_l] at dxs
  have lx : xs.length = b.l.length := (DpAll.len dxs).trans (List.length_map _)
  refine ⟨by show 0 ≤ sizeLine; decide, fun L hL => ?_⟩
  have m0 := same_new hL (.lst [])
  refine ⟨_, rfl, a, rfl, ⟨_, sqT_mono m0 ha⟩, ?_⟩
  refine for_tup (K := K) (a := a) (xs := xs) (fun i σ H' => ∃ (vs : List V) (y2 y3 : Option V), σ = [some (.ref a), some (.ref L), y2, y3] ∧ Acc K H H' L vs (((b.l.take i).flatMap Stm.all).map Stm.d)) ⟨[], none, none, rfl, Acc.start hL⟩ (fun i σ H' _ ⟨_, _, _, _, ac⟩ => sqT_mono ac.s ha) ?_ ?_
  · rintro i x σ H1 hx ⟨vs, y2, y3, rfl, ac⟩
    have hi' := (List.getElem?_eq_some_iff.mp hx).1
    obtain ⟨st, es⟩ : ∃ st, b.l[i]? = some st := ⟨b.l[i]'(lx ▸ hi'), List.getElem?_eq_getElem _⟩
    obtain ⟨x', ex, dst⟩ := DpAll.get dxs (show (b.l.map Stm.d)[i]? = some st.d by rw [List.getElem?_map, es]; rfl)
    rw [hx] at ex
    cases ex
    have hm := List.mem_of_getElem? es
    have fs := blF.l bf st hm
    have ts := blk_tot_at hm
    have dst1 := dp_mono ac.s _ _ dst
    have l1 := ac.len
    rw [List.length_map] at l1
    have l2 := all_take b i
    have hlen : vs.length < sizeLine := Nat.lt_of_le_of_lt (show vs.length ≤ 700 by omega) (by decide)
    refine ⟨_, rfl, .inl ⟨rfl, _, SqL.of ac.l⟩, _, rfl, L, vs, _, rfl, rfl, ac.l, hlen, ?_⟩
    have ac2 := ac.add dst1 st.nol
    have dst2 := dp_tups (Tups.lst (o := .lst (vs ++ [x])) ac.l) _ _ st.nol dst1
    revert ac2 dst2
    generalize upd H1 L (.lst (vs ++ [x])) = H2
    intro ac2 dst2
    refine ⟨_, rfl, x, st, rfl, dst2, fun Li us H3 nLi m3 hLi dus => ⟨Li, rfl, ⟨_, SqL.of hLi⟩, ?_⟩⟩
    have ne : L ≠ Li := fun e => by rw [← e, ac2.l] at nLi; cases nLi
    have lus : us.length = st.inner.length := (DpAll.len dus).trans (List.length_map _)
    generalize hS : ((b.l.take i).flatMap Stm.all) = S at ac ac2 l1 l2
    refine for_list (K := K) (a := Li) (xs := us) (fun j σ H' => ∃ (ws : List V) (y3 : Option V), σ = [some (.ref a), some (.ref L), some x, y3] ∧ Acc K H H' L ws ((S ++ [st] ++ (st.inner.take j).flatMap Blk.all).map Stm.d) ∧ H' Li = some (.lst us) ∧ DpAll K H' us (st.inner.map Blk.d)) ⟨vs ++ [x], y3, rfl, ?_, hLi, dus⟩ (fun j σ H' _ ⟨_, _, _, _, h, _⟩ => SqL.of h) ?_ ?_
    · rw [List.take_zero, List.flatMap_nil, List.append_nil, List.map_append]
      exact ac2.grow m3
    · rintro j u σ H4 hu ⟨ws, y3, rfl, acj, hl4, du4⟩
      have hj' := (List.getElem?_eq_some_iff.mp hu).1
      obtain ⟨bj, ebj⟩ : ∃ bj, st.inner[j]? = some bj := ⟨st.inner[j]'(lus ▸ hj'), List.getElem?_eq_getElem _⟩
      obtain ⟨u', eu, dbj⟩ := DpAll.get du4 (show (st.inner.map Blk.d)[j]? = some bj.d by rw [List.getElem?_map, ebj]; rfl)
      rw [hu] at eu
      cases eu
      obtain ⟨e, rfl, fb, tb⟩ := inner_fit fs bj (List.mem_of_getElem? ebj)
      refine ⟨_, rfl, .inl ⟨rfl, _, SqL.of acj.l⟩, _, rfl, hB e rfl _ _ _ _ ⟨u, bj, rfl, dbj, fb, by omega, fun Lx ux H5 nLx m5 hLx dux => ?_⟩⟩
      have ac5 := acj.grow m5
      have l3 := ac5.len
      rw [List.length_map, List.length_append, List.length_append, List.length_singleton] at l3
      have l4 := inner_take st j
      have l5 := DpAll.len dux
      rw [List.length_map, Blk.all_len] at l5
      refine ⟨L, Lx, _, _, rfl, rfl, ac5.l, hLx, Nat.le_trans (show ws.length + ux.length ≤ 10000 by omega) (by decide), ws ++ ux, _, rfl, ?_, ?_, ?_⟩
      · rw [take_more ebj, List.flatMap_append, show [bj].flatMap Blk.all = bj.all from by rw [List.flatMap_cons]; exact List.append_nil _, ← List.append_assoc, List.map_append]
        exact ac5.ext dux (nolAll_stms _)
      · rw [upd_ne ne.symm]
        exact m5 _ _ hl4
      · exact dp_tupsAll (Tups.lst ac5.l) _ _ (nolAll_blk _) (dp_monoAll m5 _ _ du4)
    · rintro σ H4 ⟨ws, y3, rfl, acj, _, _⟩
      refine ⟨ws, _, _, rfl, ?_⟩
      rw [lus, List.take_length] at acj
      rw [take_more es, List.flatMap_append, show [st].flatMap Stm.all = st.all from by rw [List.flatMap_cons]; exact List.append_nil _, hS, Stm.all_eq st]
      rw [List.append_assoc] at acj
      exact acj
  · rintro σ H1 ⟨vs, y2, y3, rfl, ac⟩
    rw [lx, List.take_length, ← Blk.all_l] at ac
    exact ⟨_, rfl, q L _ _ hL ac.s ac.l ac.d⟩
theorem ok_es (T : Txt K mg file) (k : Nat) : ∀ d : Nat, FnOk P w K mg base CX0 (d + 2) T.a_every_statement T.fd_every_statement ["block"] (spES K k d)
  | 0 => ok_es_step T k 0 (fun _ _ _ _ => False) ⟨fun _ _ _ _ h => h.elim, fun _ _ _ _ _ _ _ _ _ _ _ _ _ h => h.elim⟩ (fun j h => absurd h (by omega))
  | d + 1 => ok_es_step T k (d + 1) _ (ok_es T k d) (fun j h vs H Q E q => by
      obtain rfl : d = j := by omega
      exact q)
theorem ok_ownE (T : Txt K mg file) (hF : FormsX K w T.a_FORMS) : FnOk P w K mg base CX0 1 T.a_own_expressions T.fd_own_expressions ["statement"] (spOwnE K) := by
  refine T.F_own_expressions.ok sc_own_expressions (fun vs H Q E h => ?_) (fun cdv A outer s H vs Q E hr h => ?_)
  · obtain ⟨v, s, rfl, _⟩ := h
    rfl
  obtain ⟨v, x, rfl, dx, q⟩ := h
  refine ⟨_, (pss_cons (ps_set (i := 1) sc_own_expressions.nd rfl (Or.inl rfl) (pe_ix ix_tup (pv 0) pe_int (fun _ _ => rfl)))
    (pss_cons (ps_if (pt_cmpR op_eq (pv 1) pe_str (nomark _))
      (pss_one (ps_ret (pe_lst (pa_cons (pe_ix ix_tup (pv 0) pe_int (fun _ _ => rfl)) pa_nil))))
      pss_nil)
    (pss_cons (ps_if (pt_cmpR op_eq (pv 1) pe_str (nomark _))
      (pss_one (ps_ret (pe_lst pa_nil)))
      pss_nil)
    (pss_one (ps_ret (pe_lc (own := [("kind", 2), ("part", 3)]) (g := gTup K 2 (gCons (gName 2) (gCons (gName 3) gNil))) rfl sc_own_expressions.nd (RZ.pi_zipA (by rfl) T.z_zip (pa_cons (pe_ix ix_kdict (pe_glob (v := .ref T.a_FORMS) rfl T.g_FORMS rfl) (pv 1) (fun _ _ => rfl)) (pa_cons (pe_slice (slTB K rfl) (pv 0) (po_some pe_int) po_none) pa_nil))) (blkOk_by (own := [("kind", 2), ("part", 3)]) (N := ["statement", "word", "kind", "part"]) (sc := defScope s_own_expressions) (by decide +kernel)) (fun _ _ _ _ _ => pg_tup rfl (pgs_cons (pg_name (i := 2) sc_own_expressions.nd rfl (Or.inl rfl)) (pgs_cons (pg_name (i := 3) sc_own_expressions.nd rfl (Or.inl rfl)) pgs_nil))) (fun _ _ _ _ _ => pts_one (pt_cmpR op_eq (pv 2) pe_str (nomark _))) (fun _ _ _ _ _ => (pv 3)))))))), ?_⟩
  obtain ⟨a, rr, rfl, ha, dr⟩ := stm_inv dx
  refine ⟨_, rfl, a, _, 0, _, rfl, rfl, ha, atI_nat (j := 0) rfl, ?_⟩
  refine ⟨_, rfl, rfl, _, rfl, ?_⟩
  by_cases ci : x.kind = "if"
  · refine iteT2 (by simp [ci]) ?_
    obtain ⟨t, fa, fb, rfl⟩ := ite_is ci
    obtain ⟨v1, _, rfl, d1, dr⟩ := dps_cons dr
    refine ⟨_, rfl, a, _, 1, _, rfl, rfl, ha, atI_nat (j := 1) rfl, by show 1 ≤ sizeLine; decide, fun L hL => ?_⟩
    have m := same_new hL (.lst [v1])
    exact q L _ _ hL m upd_same (.cons (dp_mono m _ _ d1) .nil)
  refine iteF2 (by simp [ci]) ⟨_, rfl, rfl, _, rfl, ?_⟩
  by_cases ca : x.kind = "after"
  · refine iteT2 (by simp [ca]) ?_
    obtain ⟨fa, rfl⟩ := after_is ca
    exact ⟨by show 0 ≤ sizeLine; decide, fun L hL => q L _ _ hL (same_new hL _) upd_same .nil⟩
  refine iteF2 (by simp [ca]) ?_
  have si : x.sim = true := by
    cases x <;> first | rfl | exact absurd rfl ci | exact absurd rfl ca
  have sk := sim_kind si
  have sf := pas_form si
  rw [pas_args si] at dr
  have lk : (Pz.formOf x.kind).length ≤ 10 := (by decide +kernel : ∀ w ∈ Pz.words, (Pz.formOf w).length ≤ 10) _ sk.1
  have lv : rr.length = x.pas.length := (DpAll.len dr).trans (List.length_map _)
  obtain ⟨ka, kd, kt⟩ := hF x.kind sk.1
  refine ⟨_, rfl, T.a_FORMS, _, _, rfl, rfl, kd, _, rfl, _, rfl, a, _, rfl, ha, fun p H1 m1 hp => ?_⟩
  rw [cut_tl] at hp
  refine ⟨ka, p, _, _, rfl, .inr ⟨kt _, hp, fun D hD => ?_⟩⟩
  have hn : x.pas.length = min ((Pz.formOf x.kind).map V.str).length rr.length := by rw [List.length_map, lv, sf.1, Nat.min_self]
  refine lc_it (zipT hn) (fun t H' => (∃ us, Acc K H1 H' D us (((x.pas.take t).filterMap Pa.ex).map Ex.d)) ∧ SqT K H' p rr) ⟨⟨[], Acc.start hD⟩, sqT_mono (same_new hD _) hp⟩ (fun t H' _ h => ⟨kt _, h.2⟩) ?_ ?_
  · rintro t y H2 H3 ht ⟨⟨us, ac⟩, hp2⟩ ⟨Tp, z1, z2, rfl, hTp, rfl, ex1, ex2⟩
    obtain ⟨kd0, ek, rfl⟩ := Option.map_eq_some_iff.mp (by rw [← List.getElem?_map]; exact ex1)
    have htx : t < x.pas.length := ht
    obtain ⟨pt, ep⟩ : ∃ pt, x.pas[t]? = some pt := ⟨x.pas[t]'htx, List.getElem?_eq_getElem _⟩
    obtain ⟨z2', ez2, dz⟩ := DpAll.get dr (i := t) (d := pt.d) (by rw [List.getElem?_map, ep]; rfl)
    have ex2 : rr[t]? = some z2 := ex2
    rw [ex2] at ez2
    cases ez2
    have m3 := same_new hTp (.tup [V.str kd0, z2])
    have ac3 := ac.grow m3
    have hp3 := sqT_mono m3 hp2
    have hlen : us.length < sizeLine := by
      have l1 := ac.len
      rw [List.length_map] at l1
      have l2 := List.length_filterMap_le Pa.ex (x.pas.take t)
      rw [List.length_take] at l2
      exact Nat.lt_of_le_of_lt (show us.length ≤ 100 by omega) (by decide)
    refine ⟨Tp, _, rfl, SqT.of upd_same, rfl, _, _, rfl, _, _, rfl, rfl, ?_⟩
    refine ⟨rfl, _, rfl, rfl, _, rfl, ?_⟩
    rcases sf.2 t kd0 pt ek ep with ⟨rfl, xe, rfl⟩ | ⟨ne, d0, rfl⟩
    · refine iteT2 (decide_eq_true rfl) ⟨_, rfl, us, ac3.l, hlen, ⟨us ++ [z2], ?_⟩, sqT_tups (Tups.lst ac3.l) hp3⟩
      rw [take_more ep, List.filterMap_append, show [Pa.e xe].filterMap Pa.ex = [xe] from rfl, List.map_append]
      exact ac3.add (dp_mono (m1.trans (ac.s.trans m3)) _ _ dz) (Ex.nol _)
    · refine iteF2 (by simp [ne]) ⟨⟨us, ?_⟩, hp3⟩
      rw [take_more ep, List.filterMap_append, show [Pa.o d0].filterMap Pa.ex = [] from rfl, List.append_nil]
      exact ac3
  · rintro H2 ⟨⟨us, ac⟩, _⟩
    rw [List.take_length, ← own_pas si] at ac
    exact q D us H2 (none_of m1 hD) (m1.trans ac.s) ac.l ac.d
end
end Toy
set_option Elab.async false
set_option linter.all false
set_option maxRecDepth 100000
set_option maxHeartbeats 4000000
namespace Toy
open PySem L2 NdefX Gm
open Mine hiding same_new
def spPR (K : PySem.W.Frag) (k d : Nat) : Sp := fun vs H Q _ => ∃ (v : V) (p : Pr), vs = [v] ∧ Dp K H v p.d ∧ blF k d p.block ∧ exF k p.res ∧ k ≤ 6 ∧ p.block.tot ≤ 700 ∧ ∀ (L : Addr) (us : List V) (H' : Hp), H L = none → Same H H' → H' L = some (.lst us) → DpAll K H' us (p.rds.map plD) → Q (.ref L) H'
theorem pow6 {k : Nat} (h : k ≤ 6) : 2 ^ k ≤ 64 := by
  have := Nat.pow_le_pow_right (show 0 < 2 by decide) h
  have e : (2 : Nat) ^ 6 = 64 := by decide
  omega
theorem mul_bd {a b c d : Nat} (h1 : a ≤ c) (h2 : b ≤ d) : a * b ≤ c * d := Nat.mul_le_mul h1 h2
section
variable {P : Program} {w : World} {K : PySem.W.Frag} {mg : Str → Option Value} {base : Heap} {file : Str}
theorem dp_BAD (T : Txt K mg file) (H : Hp) : Dp K H (.ref T.a_BAD) (plD ("bad", "")) := .tup (T.q_BAD H) (.cons (.str _) (.cons (.str _) .nil))
theorem ok_br (T : Txt K mg file) (hF : FormsX K w T.a_FORMS) (k d : Nat) : FnOk P w K mg base CX0 (d + k + 5) T.a_block_reads T.fd_block_reads ["block"] (spBR K k d) := by
  have G_every_statement : FnOk P w K mg base CX0 (d + 2) T.a_every_statement T.fd_every_statement ["block"] (spES K k d) := ok_es T k d
  have G_own_expressions : FnOk P w K mg base CX0 1 T.a_own_expressions T.fd_own_expressions ["statement"] (spOwnE K) := ok_ownE T hF
  have G_expression_reads : FnOk P w K mg base CX0 (k + 2) T.a_expression_reads T.fd_expression_reads ["expression"] (spExReads K k) := ok_exreads T k
  refine T.F_block_reads.ok sc_block_reads (fun vs H Q E h => ?_) (fun cdv A outer s H vs Q E hr h => ?_)
  · obtain ⟨v, b, rfl, _⟩ := h
    rfl
  obtain ⟨v, b, rfl, dv, bf, hk, ht, q⟩ := h
  refine ⟨_, (pss_cons (ps_set (i := 1) sc_block_reads.nd rfl (Or.inl rfl) (pe_lst pa_nil))
    (pss_cons (ps_for PassesOwn.never rfl (pi_list (pe_call G_every_statement (hr.mono (by omega)) rfl T.g_every_statement T.k_every_statement T.b_every_statement .nil pass0 (pa_cons (pv 0) pa_nil))) (pg_name (i := 2) sc_block_reads.nd rfl (Or.inl rfl))
      (pss_cons (ps_for PassesOwn.never rfl (pi_list (pe_call G_own_expressions (hr.mono (by omega)) rfl T.g_own_expressions T.k_own_expressions T.b_own_expressions .nil pass0 (pa_cons (pv 2) pa_nil))) (pg_name (i := 3) sc_block_reads.nd rfl (Or.inl rfl))
      (pss_one (ps_expr (pe_bm PySem.F.plainAttrs_list PySem.F.slot_list_extend PySem.F.type_list_extend mt_extend (pv 1) (pa_cons (pe_call G_expression_reads (hr.mono (by omega)) rfl T.g_expression_reads T.k_expression_reads T.b_expression_reads .nil pass0 (pa_cons (pv 3) pa_nil)) pa_nil)))))
    (pss_one (ps_if (pt_cmpR op_eq (pe_ix ix_tup (pv 2) pe_int (fun _ _ => rfl)) pe_str (nomark _))
      (pss_one (ps_expr (pe_bm PySem.F.plainAttrs_list PySem.F.slot_list_append PySem.F.type_list_append mt_append (pv 1) (pa_cons (pe_tup (pa_cons pe_str (pa_cons (pe_ix ix_tup (pv 2) pe_int (fun _ _ => rfl)) pa_nil))) pa_nil))))
      (pss_one (ps_if (pt_cmpR op_eq (pe_ix ix_tup (pv 2) pe_int (fun _ _ => rfl)) pe_str (nomark _))
      (pss_one (ps_expr (pe_bm PySem.F.plainAttrs_list PySem.F.slot_list_append PySem.F.type_list_append mt_append (pv 1) (pa_cons (pe_glob (v := .ref T.a_BAD) rfl T.g_BAD rfl) pa_nil))))
      pss_nil))))))
    (pss_one (ps_ret (pv 1))))), ?_⟩
  have two : (2 : Nat) ≤ sizeLine := by decide
  have pw := pow6 hk
  refine ⟨by show 0 ≤ sizeLine; decide, fun L hL => ?_⟩
  have m0 := same_new hL (.lst [])
  refine ⟨_, rfl, v, b, rfl, dp_mono m0 _ _ dv, bf, ht, fun La us H1 nLa m1 hLa dus => ⟨La, rfl, ⟨_, SqL.of hLa⟩, ?_⟩⟩
  have ne : L ≠ La := fun e => by rw [← e, upd_same] at nLa; cases nLa
  have lus : us.length = b.all.length := (DpAll.len dus).trans (List.length_map _)
  have lall := Blk.all_len b
  refine for_list (K := K) (a := La) (xs := us) (fun i σ H' => ∃ (vs : List V) (y2 y3 : Option V), σ = [some v, some (.ref L), y2, y3] ∧ Acc K H H' L vs (((b.all.take i).flatMap Stm.rd).map plD) ∧ H' La = some (.lst us) ∧ DpAll K H' us (b.all.map Stm.d)) ⟨[], none, none, rfl, (Acc.start hL).grow m1, hLa, dus⟩ (fun i σ H' _ ⟨_, _, _, _, _, h, _⟩ => SqL.of h) ?_ ?_
  · rintro i x σ H2 hx ⟨vs, y2, y3, rfl, ac, hla, da⟩
    have hi' := (List.getElem?_eq_some_iff.mp hx).1
    obtain ⟨st, es⟩ : ∃ st, b.all[i]? = some st := ⟨b.all[i]'(lus ▸ hi'), List.getElem?_eq_getElem _⟩
    obtain ⟨x', ex, dst⟩ := DpAll.get da (show (b.all.map Stm.d)[i]? = some st.d by rw [List.getElem?_map, es]; rfl)
    rw [hx] at ex
    cases ex
    have fs := Blk.all_fit bf st (List.mem_of_getElem? es)
    have lS : ((b.all.take i).flatMap Stm.rd).length ≤ 700 * 129 := by
      have h1 := flat_len (f := Stm.rd) (n := 129) (l := b.all.take i) fun s hs => by
        have := rd_len (Blk.all_fit bf s (List.mem_of_mem_take hs))
        omega
      rw [List.length_take] at h1
      exact Nat.le_trans h1 (mul_bd (by omega) (Nat.le_refl _))
    generalize hS : (b.all.take i).flatMap Stm.rd = S at ac lS
    refine ⟨_, rfl, x, st, rfl, dst, fun Lo ws H3 nLo m3 hLo dws => ⟨Lo, rfl, ⟨_, SqL.of hLo⟩, ?_⟩⟩
    have neo : L ≠ Lo := fun e => by rw [← e, ac.l] at nLo; cases nLo
    have lws : ws.length = st.own.length := (DpAll.len dws).trans (List.length_map _)
    have lo2 := own_len st
    refine for_list (K := K) (a := Lo) (xs := ws) (fun j σ H' => ∃ (zs : List V) (y3 : Option V), σ = [some v, some (.ref L), some x, y3] ∧ Acc K H H' L zs ((S ++ (st.own.take j).flatMap Ex.reads).map plD) ∧ H' La = some (.lst us) ∧ DpAll K H' us (b.all.map Stm.d) ∧ H' Lo = some (.lst ws) ∧ DpAll K H' ws (st.own.map Ex.d)) ⟨vs, y3, rfl, ?_, m3 _ _ hla, dp_monoAll m3 _ _ da, hLo, dws⟩ (fun j σ H' _ ⟨_, _, _, _, _, _, h, _⟩ => SqL.of h) ?_ ?_
    · rw [List.take_zero, List.flatMap_nil, List.append_nil]
      exact ac.grow m3
    · rintro j u σ H4 hu ⟨zs, y3, rfl, acj, hla4, da4, hlo4, do4⟩
      have hj' := (List.getElem?_eq_some_iff.mp hu).1
      obtain ⟨ej, eej⟩ : ∃ e, st.own[j]? = some e := ⟨st.own[j]'(lws ▸ hj'), List.getElem?_eq_getElem _⟩
      obtain ⟨u', eu, dej⟩ := DpAll.get do4 (show (st.own.map Ex.d)[j]? = some ej.d by rw [List.getElem?_map, eej]; rfl)
      rw [hu] at eu
      cases eu
      have fe := own_fit fs ej (List.mem_of_getElem? eej)
      refine ⟨_, rfl, .inl ⟨rfl, _, SqL.of acj.l⟩, _, rfl, u, ej, rfl, dej, fe, by omega, fun Lx ux H5 nLx m5 hLx dux => ?_⟩
      have ac5 := acj.grow m5
      have l3 := ac5.len
      rw [List.length_map, List.length_append] at l3
      have l4 := flat_len (f := Ex.reads) (n := 64) (l := st.own.take j) fun e he => by
        have := reads_len2 (own_fit fs e (List.mem_of_mem_take he))
        omega
      rw [List.length_take] at l4
      have l5 := DpAll.len dux
      rw [List.length_map] at l5
      have l6 := reads_len2 fe
      refine ⟨L, Lx, _, _, rfl, rfl, ac5.l, hLx, Nat.le_trans (show zs.length + ux.length ≤ 100000 by omega) (by decide), zs ++ ux, _, rfl, ?_, ?_, ?_, ?_, ?_⟩
      · rw [take_more eej, List.flatMap_append, show [ej].flatMap Ex.reads = ej.reads from by rw [List.flatMap_cons]; exact List.append_nil _, ← List.append_assoc, List.map_append]
        exact ac5.ext dux (nolAll_pl _)
      · rw [upd_ne ne.symm]
        exact m5 _ _ hla4
      · exact dp_tupsAll (Tups.lst ac5.l) _ _ (nolAll_stms _) (dp_monoAll m5 _ _ da4)
      · rw [upd_ne neo.symm]
        exact m5 _ _ hlo4
      · exact dp_tupsAll (Tups.lst ac5.l) _ _ (nolAll_ex _) (dp_monoAll m5 _ _ do4)
    · rintro σ H4 ⟨zs, y3, rfl, acj, hla4, da4, hlo4, do4⟩
      rw [lws, List.take_length] at acj
      clear hlo4 do4 dws hLo nLo dst
      obtain ⟨x', ex, dst⟩ := DpAll.get da4 (show (b.all.map Stm.d)[i]? = some st.d by rw [List.getElem?_map, es]; rfl)
      rw [hx] at ex
      cases ex
      have lz := acj.len
      rw [List.length_map, List.length_append] at lz
      have l4 := flat_len (f := Ex.reads) (n := 64) (l := st.own) fun e he => by
        have := reads_len2 (own_fit fs e he)
        omega
      have hlen : zs.length < sizeLine := Nat.lt_of_le_of_lt (show zs.length ≤ 100000 by omega) (by decide)
      have e1 : (b.all.take (i + 1)).flatMap Stm.rd = S ++ st.own.flatMap Ex.reads ++ st.rd2 := by
        rw [take_more es, List.flatMap_append, show [st].flatMap Stm.rd = st.rd from by rw [List.flatMap_cons]; exact List.append_nil _, hS, Stm.rd, List.append_assoc]
      rw [e1]
      have fin : ∀ {u : V} {pl : Str × Str} {H5 : Hp} {y3 : Option V}, st.rd2 = [pl] → Same H4 H5 → Dp K H5 u (plD pl) → ∃ (vs' : List V) (y2' y3' : Option V), [some v, some (V.ref L), some x, y3] = [some v, some (.ref L), y2', y3'] ∧ Acc K H (upd H5 L (.lst (zs ++ [u]))) L vs' ((S ++ st.own.flatMap Ex.reads ++ st.rd2).map plD) ∧ (upd H5 L (.lst (zs ++ [u]))) La = some (.lst us) ∧ DpAll K (upd H5 L (.lst (zs ++ [u]))) us (b.all.map Stm.d) := fun {u pl H5 y3} e m du => by
        have ac5 := acj.grow m
        refine ⟨zs ++ [u], _, _, rfl, ?_, by rw [upd_ne ne.symm]; exact m _ _ hla4, dp_tupsAll (Tups.lst ac5.l) _ _ (nolAll_stms _) (dp_monoAll m _ _ da4)⟩
        rw [e, List.map_append]
        exact ac5.add du (show nol (plD pl) = true from rfl)
      obtain ⟨xa, rr, rfl, hxa, dr⟩ := stm_inv dst
      refine ⟨_, rfl, xa, _, 0, _, rfl, rfl, hxa, atI_nat (j := 0) rfl, rfl, _, rfl, ?_⟩
      by_cases cl : st.kind = "lot"
      · refine iteT2 (by simp [cl]) ?_
        obtain ⟨l, o, e, rfl⟩ : ∃ l o e, st = .lot l o e := by
          cases st <;> first | exact ⟨_, _, _, rfl⟩ | (dsimp only [Stm.kind] at cl; exact absurd cl (by decide +kernel))
        obtain ⟨v1, _, rfl, d1, dr⟩ := dps_cons dr
        obtain ⟨v2, _, rfl, d2, dr⟩ := dps_cons dr
        have e2 := dp_s d2
        subst e2
        refine ⟨_, rfl, .inl ⟨rfl, _, SqL.of acj.l⟩, _, rfl, xa, _, 2, _, rfl, rfl, hxa, atI_nat (j := 2) rfl, two, fun t hht => ?_⟩
        have m := same_new hht (.tup [V.str "lots", .str o])
        exact ⟨L, zs, _, rfl, rfl, m _ _ acj.l, hlen, fin (pl := ("lots", o)) rfl m (dp_tup (ds := [.str "lots", .str o]) hht (.cons (.str _) (.cons (.str _) .nil)))⟩
      refine iteF2 (by simp [cl]) ⟨_, rfl, xa, _, 0, _, rfl, rfl, hxa, atI_nat (j := 0) rfl, rfl, _, rfl, ?_⟩
      by_cases ca : st.kind = "after"
      · refine iteT2 (by simp [ca]) ?_
        obtain ⟨fa, rfl⟩ := after_is ca
        exact ⟨_, rfl, .inl ⟨rfl, _, SqL.of acj.l⟩, L, zs, _, rfl, rfl, acj.l, hlen, fin (pl := ("bad", "")) rfl (Same.refl _) (dp_BAD T _)⟩
      refine iteF2 (by simp [ca]) ⟨zs, _, _, rfl, ?_, hla4, da4⟩
      have e2 : st.rd2 = [] := by cases st <;> first | rfl | exact absurd rfl cl | exact absurd rfl ca
      rw [e2, List.append_nil]
      exact acj
  · rintro σ H2 ⟨vs, y2, y3, rfl, ac, _, _⟩
    rw [lus, List.take_length] at ac
    exact ⟨_, rfl, q L _ _ hL ac.s ac.l ac.d⟩
theorem ok_pr (T : Txt K mg file) (hF : FormsX K w T.a_FORMS) (k d : Nat) : FnOk P w K mg base CX0 (d + k + 6) T.a_proc_reads T.fd_proc_reads ["proc"] (spPR K k d) := by
  have G_block_reads : FnOk P w K mg base CX0 (d + k + 5) T.a_block_reads T.fd_block_reads ["block"] (spBR K k d) := ok_br T hF k d
  have G_expression_reads : FnOk P w K mg base CX0 (k + 2) T.a_expression_reads T.fd_expression_reads ["expression"] (spExReads K k) := ok_exreads T k
  refine T.F_proc_reads.ok sc_proc_reads (fun vs H Q E h => ?_) (fun cdv A outer s H vs Q E hr h => ?_)
  · obtain ⟨v, p, rfl, _⟩ := h
    rfl
  obtain ⟨v, p, rfl, dp, bf, rf, hk, ht, q⟩ := h
  refine ⟨_, (pss_one (ps_ret (pe_lst (StX.pa_star (pe_call G_block_reads (hr.mono (by omega)) rfl T.g_block_reads T.k_block_reads T.b_block_reads .nil pass0 (pa_cons (pe_ix ix_tup (pv 0) pe_int (fun _ _ => rfl)) pa_nil)) (StX.pa_star (pe_call G_expression_reads (hr.mono (by omega)) rfl T.g_expression_reads T.k_expression_reads T.b_expression_reads .nil pass0 (pa_cons (pe_ix ix_tup (pv 0) pe_int (fun _ _ => rfl)) pa_nil)) pa_nil))))), ?_⟩
  obtain ⟨a, la, ba, rv, bs, rfl, ha, hla, hba, dbs, dres⟩ := pr_inv dp
  have dblk : Dp K H (.ref ba) p.block.d := by
    refine .tup hba ?_
    rw [Blk.ds_l]
    exact dbs
  have pw := pow6 hk
  refine ⟨_, rfl, a, _, 4, _, rfl, rfl, ha, atI_nat (j := 4) rfl, .ref ba, p.block, rfl, dblk, bf, hk, ht, fun L1 us H1 n1 m1 h1 d1 => ?_⟩
  refine ⟨L1, us, rfl, .inr (SqL.of h1), _, rfl, a, _, 5, _, rfl, rfl, sqT_mono m1 ha, atI_nat (j := 5) rfl, rv, p.res, rfl, dp_mono m1 _ _ dres, rf, by omega, fun L2 ws H2 n2 m2 h2 d2 => ?_⟩
  refine ⟨L2, ws, rfl, .inr (SqL.of h2), ?_, fun L hL => ?_⟩
  · have h1 := rds_len bf
    have h2 := mul_bd ht (show 2 * 2 ^ k + 1 ≤ 129 by omega)
    have h3 := reads_len2 rf
    have h4 := DpAll.len d1
    have h5 := DpAll.len d2
    rw [List.length_map] at h4 h5
    refine Nat.le_trans (show _ ≤ 200000 from ?_) (by decide)
    simp only [List.length_append, List.length_nil]
    omega
  have m3 := same_new hL (.lst (us ++ (ws ++ [])))
  refine q L (us ++ (ws ++ [])) _ (none_of (m1.trans m2) hL) (m1.trans (m2.trans m3)) upd_same ?_
  have d22 := DpAll.app (dp_monoAll m3 _ _ d2) DpAll.nil
  rw [List.append_nil (p.res.reads.map plD)] at d22
  rw [Pr.rds, List.map_append]
  exact DpAll.app (dp_monoAll (m2.trans m3) _ _ d1) d22
theorem ok_ow (T : Txt K mg file) (hF : FormsX K w T.a_FORMS) : FnOk P w K mg base CX0 1 T.a_own_writes T.fd_own_writes ["statement"] (spOwnW K) := by
  refine T.F_own_writes.ok sc_own_writes (fun vs H Q E h => ?_) (fun cdv A outer s H vs Q E hr h => ?_)
  · obtain ⟨v, s, rfl, _⟩ := h
    rfl
  obtain ⟨v, x, rfl, dx, q⟩ := h
  refine ⟨_, (pss_cons (ps_set (i := 1) sc_own_writes.nd rfl (Or.inl rfl) (pe_ix ix_tup (pv 0) pe_int (fun _ _ => rfl)))
    (pss_cons (ps_if (pt_cmpR op_in_seq (pv 1) (pe_tup (pa_cons pe_str (pa_cons pe_str pa_nil))) rfl)
      (pss_one (ps_ret (pe_lst pa_nil)))
      pss_nil)
    (pss_cons (ps_if (pt_cmpR op_eq (pv 1) pe_str (nomark _))
      (pss_one (ps_ret (pe_lst (pa_cons (pe_glob (v := .ref T.a_BAD) rfl T.g_BAD rfl) pa_nil))))
      pss_nil)
    (pss_cons (ps_set (i := 2) sc_own_writes.nd rfl (Or.inl rfl) (pe_lst (pa_cons (pe_tup (pa_cons (pe_ix ix_tup (pe_ix ix_kdict (pe_glob (v := .ref T.a_FORMS) rfl T.g_FORMS rfl) (pv 1) (fun _ _ => rfl)) pe_int (fun _ _ => rfl)) (pa_cons (pe_ix ix_tup (pv 0) pe_int (fun _ _ => rfl)) pa_nil))) pa_nil)))
    (pss_cons (ps_if (pt_cmpR op_eq (pv 1) pe_str (nomark _))
      (pss_one (ps_expr (pe_bm PySem.F.plainAttrs_list PySem.F.slot_list_append PySem.F.type_list_append mt_append (pv 2) (pa_cons (pe_tup (pa_cons pe_str (pa_cons (pe_ix ix_tup (pv 0) pe_int (fun _ _ => rfl)) pa_nil))) pa_nil))))
      pss_nil)
    (pss_one (ps_ret (pv 2)))))))), ?_⟩
  have two : (2 : Nat) ≤ sizeLine := by decide
  have one : (1 : Nat) ≤ sizeLine := by decide
  have hi : ∀ x : Str, inV (.str x) [.str "if", .str "after"] = decide (x ∈ (["if", "after"] : List Str)) := fun x => Pz.inV_strs x ["if", "after"]
  obtain ⟨a, rr, rfl, ha, dr⟩ := stm_inv dx
  refine ⟨_, rfl, a, _, 0, _, rfl, rfl, ha, atI_nat (j := 0) rfl, ?_⟩
  refine ⟨_, rfl, two, fun t1 h1 => ?_⟩
  have m1 := same_new h1 (.tup [V.str "if", .str "after"])
  refine ⟨_, _, rfl, .inr (SqT.of upd_same), rfl, by decide +kernel, _, rfl, ?_⟩
  rw [if_neg Bool.false_ne_true, hi]
  revert m1
  generalize upd H t1 (.tup [V.str "if", .str "after"]) = H1
  intro m1
  have ha := sqT_mono m1 ha
  by_cases ci : x.kind ∈ (["if", "after"] : List Str)
  · refine iteT2 (decide_eq_true ci) ⟨by show 0 ≤ sizeLine; decide, fun L hL => ?_⟩
    have e : x.wr = [] := by
      cases x <;> first | rfl | (dsimp only [Stm.kind] at ci; exact absurd ci (by decide +kernel))
    refine q L [] _ (none_of m1 hL) (m1.trans (same_new hL _)) upd_same ?_
    rw [e]
    exact .nil
  refine iteF2 (decide_eq_false ci) ⟨_, rfl, rfl, _, rfl, ?_⟩
  by_cases cb : x.kind = "bad"
  · refine iteT2 (by simp [cb]) ⟨one, fun L hL => ?_⟩
    have e : x.wr = ([("bad", "")] : List (Str × Str)) := by
      cases x <;> first | rfl | (dsimp only [Stm.kind] at cb; exact absurd cb (by decide +kernel))
    refine q L [.ref T.a_BAD] _ (none_of m1 hL) (m1.trans (same_new hL _)) upd_same ?_
    rw [e]
    exact .cons (dp_BAD T _) .nil
  refine iteF2 (by simp [cb]) ?_
  cases x with
  | set y e =>
    obtain ⟨ka, kd, kt⟩ := hF "set" (by decide +kernel)
    rw [show Pz.formOf "set" = (["variable", "expression"] : List Str) from by decide +kernel] at kt
    obtain ⟨v1, _, rfl, d1, dr⟩ := dps_cons dr
    have e1 := dp_s d1
    subst e1
    refine ⟨_, rfl, T.a_FORMS, _, _, rfl, rfl, kd, ka, _, 0, _, rfl, rfl, kt _, atI_nat (j := 0) rfl, _, rfl, a, _, 1, _, rfl, rfl, ha, atI_nat (j := 1) rfl, two, fun t ht => ⟨one, fun L hL => ?_⟩⟩
    have m2 := same_new ht (.tup [V.str "variable", .str y])
    have D : Dp K _ (.ref t) (plD ("variable", y)) := dp_tup (ds := [.str "variable", .str y]) ht (.cons (.str _) (.cons (.str _) .nil))
    have m3 := same_new hL (.lst [V.ref t])
    have hn := none_of (m1.trans m2) hL
    exact ⟨_, rfl, rfl, _, rfl, iteF2 (show decide (V.str "set" = V.str "lot") = false by decide +kernel) ⟨_, rfl, q L [.ref t] _ hn (m1.trans (m2.trans m3)) upd_same (.cons (dp_mono m3 _ _ D) .nil)⟩⟩
  | lt y e =>
    obtain ⟨ka, kd, kt⟩ := hF "let" (by decide +kernel)
    rw [show Pz.formOf "let" = (["local", "expression"] : List Str) from by decide +kernel] at kt
    obtain ⟨v1, _, rfl, d1, dr⟩ := dps_cons dr
    have e1 := dp_s d1
    subst e1
    refine ⟨_, rfl, T.a_FORMS, _, _, rfl, rfl, kd, ka, _, 0, _, rfl, rfl, kt _, atI_nat (j := 0) rfl, _, rfl, a, _, 1, _, rfl, rfl, ha, atI_nat (j := 1) rfl, two, fun t ht => ⟨one, fun L hL => ?_⟩⟩
    have m2 := same_new ht (.tup [V.str "local", .str y])
    have D : Dp K _ (.ref t) (plD ("local", y)) := dp_tup (ds := [.str "local", .str y]) ht (.cons (.str _) (.cons (.str _) .nil))
    have m3 := same_new hL (.lst [V.ref t])
    have hn := none_of (m1.trans m2) hL
    exact ⟨_, rfl, rfl, _, rfl, iteF2 (show decide (V.str "let" = V.str "lot") = false by decide +kernel) ⟨_, rfl, q L [.ref t] _ hn (m1.trans (m2.trans m3)) upd_same (.cons (dp_mono m3 _ _ D) .nil)⟩⟩
  | draw y e =>
    obtain ⟨ka, kd, kt⟩ := hF "draw" (by decide +kernel)
    rw [show Pz.formOf "draw" = (["local", "number"] : List Str) from by decide +kernel] at kt
    obtain ⟨v1, _, rfl, d1, dr⟩ := dps_cons dr
    have e1 := dp_s d1
    subst e1
    refine ⟨_, rfl, T.a_FORMS, _, _, rfl, rfl, kd, ka, _, 0, _, rfl, rfl, kt _, atI_nat (j := 0) rfl, _, rfl, a, _, 1, _, rfl, rfl, ha, atI_nat (j := 1) rfl, two, fun t ht => ⟨one, fun L hL => ?_⟩⟩
    have m2 := same_new ht (.tup [V.str "local", .str y])
    have D : Dp K _ (.ref t) (plD ("local", y)) := dp_tup (ds := [.str "local", .str y]) ht (.cons (.str _) (.cons (.str _) .nil))
    have m3 := same_new hL (.lst [V.ref t])
    have hn := none_of (m1.trans m2) hL
    exact ⟨_, rfl, rfl, _, rfl, iteF2 (show decide (V.str "draw" = V.str "lot") = false by decide +kernel) ⟨_, rfl, q L [.ref t] _ hn (m1.trans (m2.trans m3)) upd_same (.cons (dp_mono m3 _ _ D) .nil)⟩⟩
  | put y e f =>
    obtain ⟨ka, kd, kt⟩ := hF "put" (by decide +kernel)
    rw [show Pz.formOf "put" = (["table", "expression", "expression"] : List Str) from by decide +kernel] at kt
    obtain ⟨v1, _, rfl, d1, dr⟩ := dps_cons dr
    have e1 := dp_s d1
    subst e1
    refine ⟨_, rfl, T.a_FORMS, _, _, rfl, rfl, kd, ka, _, 0, _, rfl, rfl, kt _, atI_nat (j := 0) rfl, _, rfl, a, _, 1, _, rfl, rfl, ha, atI_nat (j := 1) rfl, two, fun t ht => ⟨one, fun L hL => ?_⟩⟩
    have m2 := same_new ht (.tup [V.str "table", .str y])
    have D : Dp K _ (.ref t) (plD ("table", y)) := dp_tup (ds := [.str "table", .str y]) ht (.cons (.str _) (.cons (.str _) .nil))
    have m3 := same_new hL (.lst [V.ref t])
    have hn := none_of (m1.trans m2) hL
    exact ⟨_, rfl, rfl, _, rfl, iteF2 (show decide (V.str "put" = V.str "lot") = false by decide +kernel) ⟨_, rfl, q L [.ref t] _ hn (m1.trans (m2.trans m3)) upd_same (.cons (dp_mono m3 _ _ D) .nil)⟩⟩
  | ask y o e =>
    obtain ⟨ka, kd, kt⟩ := hF "ask" (by decide +kernel)
    rw [show Pz.formOf "ask" = (["local", "asked", "expression"] : List Str) from by decide +kernel] at kt
    obtain ⟨v1, _, rfl, d1, dr⟩ := dps_cons dr
    have e1 := dp_s d1
    subst e1
    refine ⟨_, rfl, T.a_FORMS, _, _, rfl, rfl, kd, ka, _, 0, _, rfl, rfl, kt _, atI_nat (j := 0) rfl, _, rfl, a, _, 1, _, rfl, rfl, ha, atI_nat (j := 1) rfl, two, fun t ht => ⟨one, fun L hL => ?_⟩⟩
    have m2 := same_new ht (.tup [V.str "local", .str y])
    have D : Dp K _ (.ref t) (plD ("local", y)) := dp_tup (ds := [.str "local", .str y]) ht (.cons (.str _) (.cons (.str _) .nil))
    have m3 := same_new hL (.lst [V.ref t])
    have hn := none_of (m1.trans m2) hL
    exact ⟨_, rfl, rfl, _, rfl, iteF2 (show decide (V.str "ask" = V.str "lot") = false by decide +kernel) ⟨_, rfl, q L [.ref t] _ hn (m1.trans (m2.trans m3)) upd_same (.cons (dp_mono m3 _ _ D) .nil)⟩⟩
  | lot y o e =>
    obtain ⟨ka, kd, kt⟩ := hF "lot" (by decide +kernel)
    rw [show Pz.formOf "lot" = (["local", "lots", "expression"] : List Str) from by decide +kernel] at kt
    obtain ⟨v1, _, rfl, d1, dr1⟩ := dps_cons dr
    have e1 := dp_s d1
    subst e1
    refine ⟨_, rfl, T.a_FORMS, _, _, rfl, rfl, kd, ka, _, 0, _, rfl, rfl, kt _, atI_nat (j := 0) rfl, _, rfl, a, _, 1, _, rfl, rfl, ha, atI_nat (j := 1) rfl, two, fun t ht => ⟨one, fun L hL => ?_⟩⟩
    have m2 := same_new ht (.tup [V.str "local", .str y])
    have D : Dp K _ (.ref t) (plD ("local", y)) := dp_tup (ds := [.str "local", .str y]) ht (.cons (.str _) (.cons (.str _) .nil))
    have m3 := same_new hL (.lst [V.ref t])
    have hn := none_of (m1.trans m2) hL
    obtain ⟨v2, _, rfl, d2, dr2⟩ := dps_cons dr1
    have e2 := dp_s d2
    subst e2
    have ac : Acc K (upd H1 t (.tup [V.str "local", .str y])) (upd (upd H1 t (.tup [V.str "local", .str y])) L (.lst [V.ref t])) L [.ref t] [plD ("local", y)] := by
      have := (Acc.start (K := K) hL).add (v := .ref t) (d := plD ("local", y)) (dp_mono (same_new hL _) _ _ D) rfl
      have e2 : upd (upd (upd H1 t (.tup [V.str "local", .str y])) L (.lst [])) L (.lst ([] ++ [V.ref t])) = upd (upd H1 t (.tup [V.str "local", .str y])) L (.lst [V.ref t]) := by
        funext b
        by_cases hb : b = L
        · subst hb; rw [upd_same, upd_same]; rfl
        · rw [upd_ne hb, upd_ne hb, upd_ne hb]
      rw [e2] at this
      exact this
    refine ⟨_, rfl, rfl, _, rfl, iteT2 (decide_eq_true rfl) ⟨_, rfl, .inl ⟨rfl, _, SqL.of ac.l⟩, _, rfl, a, _, 2, _, rfl, rfl, sqT_mono (m2.trans m3) ha, atI_nat (j := 2) rfl, two, fun t2 ht2 => ?_⟩⟩
    have m4 := same_new ht2 (.tup [V.str "lots", .str o])
    have ac2 := (ac.grow m4).add (dp_tup (ds := [.str "lots", .str o]) ht2 (.cons (.str _) (.cons (.str _) .nil))) rfl
    exact ⟨L, [.ref t], _, rfl, rfl, m4 _ _ upd_same, by show 1 < sizeLine; decide, _, rfl, q L _ _ hn ((m1.trans m2).trans ac2.s) ac2.l ac2.d⟩
  | ite e fa fb => exact absurd (show (_ : Str) ∈ _ by dsimp only [Stm.kind]; decide +kernel) ci
  | after fa => exact absurd (show (_ : Str) ∈ _ by dsimp only [Stm.kind]; decide +kernel) ci
  | bad => exact absurd rfl cb
end
end Toy
set_option Elab.async false
set_option linter.all false
set_option maxRecDepth 100000
set_option maxHeartbeats 4000000
/-! What the laws tell of reads and writes. -/
namespace Gm
open PySem L2
open PyData (strOk)
def usB (p : Str × Str) : Str := if p.1 = "bad" then "bad" else usT p
mutual
def Stm.tr : Stm → List (Str × Str)
  | .ite e a b => e.reads ++ a.tr ++ b.tr
  | .after a => [(("bad" : Str), ("" : Str))] ++ a.tr
  | .set _ e => e.reads
  | .lt _ e => e.reads
  | .draw _ _ => []
  | .put _ e f => e.reads ++ f.reads
  | .lot _ o e => [(("lots" : Str), o)] ++ e.reads
  | .ask _ _ e => e.reads
  | .bad => []
def Blk.tr : Blk → List (Str × Str)
  | .nil => []
  | .cons s r => s.tr ++ r.tr
end
theorem Blk.tr_l : ∀ b : Blk, b.tr = b.l.flatMap Stm.tr
  | .nil => by unfold Blk.tr Blk.l; rfl
  | .cons s r => by
    unfold Blk.tr Blk.l
    rw [Blk.tr_l r, List.flatMap_cons]
def Blk.tw (b : Blk) : List (Str × Str) := b.all.flatMap Stm.wr
def Stm.tw (s : Stm) : List (Str × Str) := s.all.flatMap Stm.wr
theorem Blk.tw_l (b : Blk) : b.tw = b.l.flatMap Stm.tw := by
  unfold Blk.tw
  rw [Blk.all_l, List.flatMap_assoc]
  rfl
theorem wr_len (s : Stm) : s.wr.length ≤ 2 := by cases s <;> simp [Stm.wr]
theorem Blk.tw_len (b : Blk) : b.tw.length ≤ b.tot * 2 := by
  have := flat_len (f := Stm.wr) (n := 2) (l := b.all) fun s _ => wr_len s
  rw [Blk.all_len] at this
  exact this
theorem tw_take (b : Blk) (i : Nat) : ((b.l.take i).flatMap Stm.tw).length ≤ b.tot * 2 := by
  have := take_flat (f := Stm.tw) b.l i
  rw [← Blk.tw_l] at this
  exact Nat.le_trans this b.tw_len
mutual
theorem Stm.tr_mem (p : Str × Str) : ∀ s : Stm, p ∈ s.tr ↔ p ∈ s.all.flatMap Stm.rd
  | .ite e a b => by
    have h1 := Blk.tr_mem p a
    have h2 := Blk.tr_mem p b
    unfold Stm.tr Stm.all
    rw [List.flatMap_cons, List.flatMap_append, List.mem_append, List.mem_append, List.mem_append, List.mem_append, h1, h2]
    simp only [Stm.rd, Stm.own, Stm.rd2, Blk.rds, List.flatMap_cons, List.flatMap_nil, List.append_nil, or_assoc]
  | .after a => by
    have h1 := Blk.tr_mem p a
    unfold Stm.tr Stm.all
    rw [List.flatMap_cons, List.mem_append, List.mem_append, h1]
    simp only [Stm.rd, Stm.own, Stm.rd2, Blk.rds, List.flatMap_nil, List.nil_append]
  | .set _ _ => by unfold Stm.tr Stm.all; simp [Stm.rd, Stm.own, Stm.rd2]
  | .lt _ _ => by unfold Stm.tr Stm.all; simp [Stm.rd, Stm.own, Stm.rd2]
  | .draw _ _ => by unfold Stm.tr Stm.all; simp [Stm.rd, Stm.own, Stm.rd2]
  | .put _ _ _ => by unfold Stm.tr Stm.all; simp [Stm.rd, Stm.own, Stm.rd2]
  | .lot _ _ _ => by unfold Stm.tr Stm.all; simp [Stm.rd, Stm.own, Stm.rd2, or_comm]
  | .ask _ _ _ => by unfold Stm.tr Stm.all; simp [Stm.rd, Stm.own, Stm.rd2]
  | .bad => by unfold Stm.tr Stm.all; simp [Stm.rd, Stm.own, Stm.rd2]
theorem Blk.tr_mem (p : Str × Str) : ∀ b : Blk, p ∈ b.tr ↔ p ∈ b.rds
  | .nil => by unfold Blk.tr Blk.rds Blk.all; rfl
  | .cons s r => by
    have h1 := Stm.tr_mem p s
    have h2 := Blk.tr_mem p r
    unfold Blk.tr Blk.rds Blk.all
    unfold Blk.rds at h2
    rw [List.flatMap_append, List.mem_append, List.mem_append, h1, h2]
end
mutual
theorem Stm.tr_len {k : Nat} (hk : 2 ^ k ≤ 64) : ∀ {d : Nat} {s : Stm}, stF k d s → s.tr.length ≤ s.tot * 129
  | 0, .ite _ _ _, h => by unfold stF at h; exact h.elim
  | d + 1, .ite e a b, h => by
    unfold stF at h
    have h1 := Blk.tr_len hk h.2.1
    have h2 := Blk.tr_len hk h.2.2.1
    have h3 := reads_len2 h.1
    unfold Stm.tr Stm.tot
    simp only [List.length_append]
    omega
  | 0, .after _, h => by unfold stF at h; exact h.elim
  | d + 1, .after a, h => by
    unfold stF at h
    have h1 := Blk.tr_len hk h.1
    unfold Stm.tr Stm.tot
    simp only [List.length_append, List.length_singleton]
    omega
  | d, .set x e, h => by unfold stF at h; have h3 := reads_len2 h.2; unfold Stm.tr Stm.tot; omega
  | d, .lt x e, h => by unfold stF at h; have h3 := reads_len2 h.2; unfold Stm.tr Stm.tot; omega
  | d, .draw x e, h => by unfold Stm.tr; exact Nat.zero_le _
  | d, .put x e f, h => by unfold stF at h; have h3 := reads_len2 h.2.1; have h4 := reads_len2 h.2.2; unfold Stm.tr Stm.tot; rw [List.length_append]; omega
  | d, .lot x o e, h => by unfold stF at h; have h3 := reads_len2 h.2.2; unfold Stm.tr Stm.tot; rw [List.length_append, List.length_singleton]; omega
  | d, .ask x o e, h => by unfold stF at h; have h3 := reads_len2 h.2.2; unfold Stm.tr Stm.tot; omega
  | d, .bad, h => by unfold Stm.tr; exact Nat.zero_le _
theorem Blk.tr_len {k : Nat} (hk : 2 ^ k ≤ 64) : ∀ {d : Nat} {b : Blk}, blF k d b → b.tr.length ≤ b.tot * 129
  | d, .nil, h => by unfold Blk.tr; exact Nat.zero_le _
  | d, .cons s r, h => by
    unfold blF at h
    have h1 := Stm.tr_len hk h.1
    have h2 := Blk.tr_len hk h.2
    unfold Blk.tr Blk.tot
    rw [List.length_append]
    omega
end
theorem tr_take {k d : Nat} {b : Blk} (hk : 2 ^ k ≤ 64) (h : blF k d b) (i : Nat) : ((b.l.take i).flatMap Stm.tr).length ≤ b.tot * 129 := by
  have := take_flat (f := Stm.tr) b.l i
  rw [← Blk.tr_l] at this
  exact Nat.le_trans this (Blk.tr_len hk h)
theorem rd1_kind {e : Ex} {p : Str × Str} (h : e.rd1 = some p) : p.1 ≠ "bad" := by
  rcases kinds_rd h with e | e | e <;> rw [e] <;> decide +kernel
theorem us_reads (e : Ex) : e.reads.map usT = e.reads.map usB := by
  refine List.map_congr_left fun p hp => ?_
  obtain ⟨x, _, e1⟩ := List.mem_filterMap.mp hp
  unfold usB
  rw [if_neg (rd1_kind e1)]
/-- the two lists of the law, fresh and apart -/
structure TwL (H H' : Hp) (L1 L2 : Addr) (S1 S2 : List (Str × Str)) : Prop where
  s : Same H H'
  f1 : H L1 = none
  f2 : H L2 = none
  ne : L1 ≠ L2
  l1 : H' L1 = some (.lst ((S1.map usB).map V.str))
  l2 : H' L2 = some (.lst ((S2.map usB).map V.str))
section
variable {H H' H2 : Hp} {L1 L2 p : Addr} {S1 S2 Z : List (Str × Str)} {xs : List V}
theorem TwL.grow (t : TwL H H' L1 L2 S1 S2) (m : Same H' H2) : TwL H H2 L1 L2 S1 S2 := ⟨t.s.trans m, t.f1, t.f2, t.ne, m _ _ t.l1, m _ _ t.l2⟩
theorem TwL.new1 (t : TwL H H' L1 L2 S1 S2) (hp : H' p = none) (e : xs = (Z.map usB).map V.str) : TwL H (upd H' p (.lst xs)) p L2 Z S2 := by
  have m := same_new hp (.lst xs)
  refine ⟨t.s.trans m, ?_, t.f2, fun z => (by rw [z, t.l2] at hp; cases hp), by rw [upd_same, e], m _ _ t.l2⟩
  cases h : H p with
  | none => rfl
  | some o => rw [t.s _ _ h] at hp; cases hp
theorem TwL.new2 (t : TwL H H' L1 L2 S1 S2) (hp : H' p = none) (e : xs = (Z.map usB).map V.str) : TwL H (upd H' p (.lst xs)) L1 p S1 Z := by
  have m := same_new hp (.lst xs)
  refine ⟨t.s.trans m, t.f1, ?_, fun z => (by rw [← z, t.l1] at hp; cases hp), m _ _ t.l1, by rw [upd_same, e]⟩
  cases h : H p with
  | none => rfl
  | some o => rw [t.s _ _ h] at hp; cases hp
theorem TwL.put1 (t : TwL H H' L1 L2 S1 S2) (e : xs = (Z.map usB).map V.str) : TwL H (upd H' L1 (.lst xs)) L1 L2 Z S2 :=
  ⟨fun b o z => by rw [upd_ne (ne_of_none z t.f1)]; exact t.s _ _ z, t.f1, t.f2, t.ne, by rw [upd_same, e], by rw [upd_ne t.ne.symm]; exact t.l2⟩
theorem TwL.put2 (t : TwL H H' L1 L2 S1 S2) (e : xs = (Z.map usB).map V.str) : TwL H (upd H' L2 (.lst xs)) L1 L2 S1 Z :=
  ⟨fun b o z => by rw [upd_ne (ne_of_none z t.f2)]; exact t.s _ _ z, t.f1, t.f2, t.ne, by rw [upd_ne t.ne]; exact t.l1, by rw [upd_same, e]⟩
end
theorem us2 (A B : List (Str × Str)) : (A.map usB).map V.str ++ (B.map usB).map V.str = ((A ++ B).map usB).map V.str := by rw [List.map_append, List.map_append]
theorem us1 (p : Str × Str) : [V.str (usB p)] = (([p] : List (Str × Str)).map usB).map V.str := rfl
end Gm
set_option Elab.async false
set_option linter.all false
set_option maxRecDepth 100000
set_option maxHeartbeats 4000000
namespace Toy
open PySem L2 NdefX Gm
open Mine hiding same_new
def spSR (K : PySem.W.Frag) (k d : Nat) : Sp := fun vs H Q _ => ∃ (v : V) (s : Stm), vs = [v] ∧ Dp K H v s.d ∧ stF k d s ∧ k ≤ 6 ∧ s.tot ≤ 700 ∧ ∀ (L : Addr) (us : List V) (H' : Hp), H L = none → Same H H' → H' L = some (.lst us) → DpAll K H' us ((s.all.flatMap Stm.rd).map plD) → Q (.ref L) H'
def spSW (K : PySem.W.Frag) (k d : Nat) : Sp := fun vs H Q _ => ∃ (v : V) (s : Stm), vs = [v] ∧ Dp K H v s.d ∧ stF k d s ∧ s.tot ≤ 700 ∧ ∀ (L : Addr) (us : List V) (H' : Hp), H L = none → Same H H' → H' L = some (.lst us) → DpAll K H' us (s.tw.map plD) → Q (.ref L) H'
theorem one_blk {K : PySem.W.Frag} {H : Hp} {t : Addr} {v : V} {s : Stm} (h : H t = none) (d : Dp K H v s.d) : Dp K (upd H t (.tup [v])) (.ref t) (Blk.of [s]).d := by
  unfold Blk.d
  rw [Blk.ds_of]
  exact dp_tup h (.cons d .nil)
theorem all_one (s : Stm) : (Blk.of [s]).all = s.all := by rw [Blk.all_l, Blk.l_of, List.flatMap_cons]; exact List.append_nil _
theorem tot_1 (s : Stm) : (Blk.of [s]).tot = s.tot := by rw [← Blk.all_len, all_one, Stm.all_len]
theorem blF_1 {k d : Nat} {s : Stm} (h : stF k d s) : blF k d (Blk.of [s]) := blF.of fun x hx => by rw [List.mem_singleton.mp hx]; exact h
section
variable {P : Program} {w : World} {K : PySem.W.Frag} {mg : Str → Option Value} {base : Heap} {file : Str}
theorem ok_sr (T : Txt K mg file) (hF : FormsX K w T.a_FORMS) (k d : Nat) : FnOk P w K mg base CX0 (d + k + 6) T.a_statement_reads T.fd_statement_reads ["statement"] (spSR K k d) := by
  have G_block_reads : FnOk P w K mg base CX0 (d + k + 5) T.a_block_reads T.fd_block_reads ["block"] (spBR K k d) := ok_br T hF k d
  refine T.F_statement_reads.ok sc_statement_reads (fun vs H Q E h => ?_) (fun cdv A outer s H vs Q E hr h => ?_)
  · obtain ⟨v, x, rfl, _⟩ := h
    rfl
  obtain ⟨v, x, rfl, dx, fx, hk, ht, q⟩ := h
  refine ⟨_, (pss_one (ps_ret (pe_call G_block_reads (hr.mono (by omega)) rfl T.g_block_reads T.k_block_reads T.b_block_reads .nil pass0 (pa_cons (pe_tup (pa_cons (pv 0) pa_nil)) pa_nil)))), ?_⟩
  refine ⟨_, rfl, by show 1 ≤ sizeLine; decide, fun t h1 => ?_⟩
  have m := same_new h1 (.tup [v])
  refine ⟨.ref t, Blk.of [x], rfl, one_blk h1 dx, blF_1 fx, hk, by rw [tot_1]; exact ht, fun L us H' n m2 hL dd => ?_⟩
  unfold Blk.rds at dd
  rw [all_one] at dd
  exact q L us H' (none_of m n) (m.trans m2) hL dd
theorem ok_sw (T : Txt K mg file) (hF : FormsX K w T.a_FORMS) (k d : Nat) : FnOk P w K mg base CX0 (d + 3) T.a_statement_writes T.fd_statement_writes ["statement"] (spSW K k d) := by
  have G_every_statement : FnOk P w K mg base CX0 (d + 2) T.a_every_statement T.fd_every_statement ["block"] (spES K k d) := ok_es T k d
  have G_own_writes : FnOk P w K mg base CX0 1 T.a_own_writes T.fd_own_writes ["statement"] (spOwnW K) := ok_ow T hF
  refine T.F_statement_writes.ok sc_statement_writes (fun vs H Q E h => ?_) (fun cdv A outer s H vs Q E hr h => ?_)
  · obtain ⟨v, x, rfl, _⟩ := h
    rfl
  obtain ⟨v, x, rfl, dx, fx, ht, q⟩ := h
  refine ⟨_, (pss_cons (ps_set (i := 1) sc_statement_writes.nd rfl (Or.inl rfl) (pe_lst pa_nil))
    (pss_cons (ps_for PassesOwn.never rfl (pi_list (pe_call G_every_statement (hr.mono (by omega)) rfl T.g_every_statement T.k_every_statement T.b_every_statement .nil pass0 (pa_cons (pe_tup (pa_cons (pv 0) pa_nil)) pa_nil))) (pg_name (i := 2) sc_statement_writes.nd rfl (Or.inl rfl))
      (pss_one (ps_expr (pe_bm PySem.F.plainAttrs_list PySem.F.slot_list_extend PySem.F.type_list_extend mt_extend (pv 1) (pa_cons (pe_call G_own_writes (hr.mono (by omega)) rfl T.g_own_writes T.k_own_writes T.b_own_writes .nil pass0 (pa_cons (pv 2) pa_nil)) pa_nil)))))
    (pss_one (ps_ret (pv 1))))), ?_⟩
  refine ⟨by show 0 ≤ sizeLine; decide, fun L hL => ?_⟩
  have m0 := same_new hL (.lst [])
  refine ⟨_, rfl, by show 1 ≤ sizeLine; decide, fun t h1 => ?_⟩
  have m1 := same_new h1 (.tup [v])
  refine ⟨.ref t, Blk.of [x], rfl, one_blk h1 (dp_mono m0 _ _ dx), blF_1 fx, by rw [tot_1]; exact ht, fun La us H1 nLa m2 hLa dus => ⟨La, rfl, ⟨_, SqL.of hLa⟩, ?_⟩⟩
  rw [all_one] at dus
  have ac0 := ((Acc.start (K := K) hL).grow m1).grow m2
  have ne : L ≠ La := fun e => by rw [← e] at nLa; rw [m1 _ _ upd_same] at nLa; cases nLa
  have lus : us.length = x.all.length := (DpAll.len dus).trans (List.length_map _)
  have lall := Stm.all_len x
  refine for_list (K := K) (a := La) (xs := us) (fun i σ H' => ∃ (vs : List V) (y2 : Option V), σ = [some v, some (.ref L), y2] ∧ Acc K H H' L vs (((x.all.take i).flatMap Stm.wr).map plD) ∧ H' La = some (.lst us) ∧ DpAll K H' us (x.all.map Stm.d)) ⟨[], none, rfl, ac0, hLa, dus⟩ (fun i σ H' _ ⟨_, _, _, _, h, _⟩ => SqL.of h) ?_ ?_
  · rintro i z σ H2 hx ⟨vs, y2, rfl, ac, hla, da⟩
    have hi' := (List.getElem?_eq_some_iff.mp hx).1
    obtain ⟨st, es⟩ : ∃ st, x.all[i]? = some st := ⟨x.all[i]'(lus ▸ hi'), List.getElem?_eq_getElem _⟩
    obtain ⟨z', ez, dst⟩ := DpAll.get da (show (x.all.map Stm.d)[i]? = some st.d by rw [List.getElem?_map, es]; rfl)
    rw [hx] at ez
    cases ez
    refine ⟨_, rfl, .inl ⟨rfl, _, SqL.of ac.l⟩, _, rfl, z, st, rfl, dst, fun Lx ux H5 nLx m5 hLx dux => ?_⟩
    have ac5 := ac.grow m5
    have l3 := ac5.len
    rw [List.length_map] at l3
    have l4 := flat_len (f := Stm.wr) (n := 2) (l := x.all.take i) fun s _ => wr_len s
    rw [List.length_take] at l4
    have l5 := DpAll.len dux
    rw [List.length_map] at l5
    have l6 := wr_len st
    refine ⟨L, Lx, _, _, rfl, rfl, ac5.l, hLx, Nat.le_trans (show vs.length + ux.length ≤ 10000 by omega) (by decide), vs ++ ux, _, rfl, ?_, ?_, ?_⟩
    · rw [take_more es, List.flatMap_append, show [st].flatMap Stm.wr = st.wr from by rw [List.flatMap_cons]; exact List.append_nil _, List.map_append]
      exact ac5.ext dux (nolAll_pl _)
    · rw [upd_ne ne.symm]
      exact m5 _ _ hla
    · exact dp_tupsAll (Tups.lst ac5.l) _ _ (nolAll_stms _) (dp_monoAll m5 _ _ da)
  · rintro σ H2 ⟨vs, y2, rfl, ac, _, _⟩
    rw [lus, List.take_length] at ac
    exact ⟨_, rfl, q L _ _ hL ac.s ac.l ac.d⟩
end
end Toy
set_option Elab.async false
set_option linter.all false
set_option maxRecDepth 100000
set_option maxHeartbeats 4000000
/-! Games with other names of tables, lots and procedures. -/
namespace Gm
open PySem L2
open PyData (strOk)
def Ex.ren (f : Str → Str) : Ex → Ex
  | .num n => .num n
  | .loc x => .loc x
  | .var x => .var x
  | .has t e => .has (f t) (e.ren f)
  | .cell t e => .cell (f t) (e.ren f)
  | .op o a b => .op o (a.ren f) (b.ren f)
def Ex.Nm (N : List Str) : Ex → Prop
  | .has t e => t ∈ N ∧ e.Nm N
  | .cell t e => t ∈ N ∧ e.Nm N
  | .op _ a b => a.Nm N ∧ b.Nm N
  | _ => True
mutual
def Stm.ren (f : Str → Str) : Stm → Stm
  | .set x e => .set x (e.ren f)
  | .lt x e => .lt x (e.ren f)
  | .draw x n => .draw x n
  | .put t e g => .put (f t) (e.ren f) (g.ren f)
  | .lot l o e => .lot l (f o) (e.ren f)
  | .ask l o e => .ask l o (e.ren f)
  | .ite e a b => .ite (e.ren f) (a.ren f) (b.ren f)
  | .bad => .bad
  | .after a => .after (a.ren f)
def Blk.ren (f : Str → Str) : Blk → Blk
  | .nil => .nil
  | .cons s r => .cons (s.ren f) (r.ren f)
end
mutual
def Stm.Nm (N : List Str) : Stm → Prop
  | .set _ e => e.Nm N
  | .lt _ e => e.Nm N
  | .draw _ _ => True
  | .put t e g => t ∈ N ∧ e.Nm N ∧ g.Nm N
  | .lot _ o e => o ∈ N ∧ e.Nm N
  | .ask _ _ _ => False
  | .ite e a b => e.Nm N ∧ a.Nm N ∧ b.Nm N
  | .bad => True
  | .after a => a.Nm N
def Blk.Nm (N : List Str) : Blk → Prop
  | .nil => True
  | .cons s r => s.Nm N ∧ r.Nm N
end
theorem Blk.ren_l (f : Str → Str) : ∀ b : Blk, (b.ren f).l = b.l.map (Stm.ren f)
  | .nil => by unfold Blk.ren Blk.l; rfl
  | .cons s r => by
    unfold Blk.ren Blk.l
    rw [Blk.ren_l f r, List.map_cons]
theorem Blk.nm_l {N : List Str} : ∀ {b : Blk}, b.Nm N → ∀ s ∈ b.l, s.Nm N
  | .nil, _, s, hs => by unfold Blk.l at hs; cases hs
  | .cons x r, h, s, hs => by
    unfold Blk.Nm at h
    unfold Blk.l at hs
    rcases List.mem_cons.mp hs with rfl | hs
    · exact h.1
    · exact Blk.nm_l h.2 s hs
theorem Blk.nm_of {N : List Str} : ∀ {l : List Stm}, (∀ s ∈ l, s.Nm N) → (Blk.of l).Nm N
  | [], _ => by show Blk.nil.Nm N; unfold Blk.Nm; trivial
  | s :: l, h => by
    show (Blk.cons s (Blk.of l)).Nm N
    unfold Blk.Nm
    exact ⟨h s (List.mem_cons_self ..), Blk.nm_of fun x hx => h x (List.mem_cons_of_mem _ hx)⟩
theorem Blk.ren_len (f : Str → Str) (b : Blk) : (b.ren f).len = b.len := by rw [← Blk.len_l, ← Blk.len_l, Blk.ren_l, List.length_map]
mutual
theorem Stm.ren_tot (f : Str → Str) : ∀ s : Stm, (s.ren f).tot = s.tot
  | .ite e a b => by unfold Stm.ren Stm.tot; rw [Blk.ren_tot f a, Blk.ren_tot f b]
  | .after a => by unfold Stm.ren Stm.tot; rw [Blk.ren_tot f a]
  | .set _ _ => by unfold Stm.ren Stm.tot; rfl
  | .lt _ _ => by unfold Stm.ren Stm.tot; rfl
  | .draw _ _ => by unfold Stm.ren Stm.tot; rfl
  | .put _ _ _ => by unfold Stm.ren Stm.tot; rfl
  | .lot _ _ _ => by unfold Stm.ren Stm.tot; rfl
  | .ask _ _ _ => by unfold Stm.ren Stm.tot; rfl
  | .bad => by unfold Stm.ren Stm.tot; rfl
theorem Blk.ren_tot (f : Str → Str) : ∀ b : Blk, (b.ren f).tot = b.tot
  | .nil => by unfold Blk.ren Blk.tot; rfl
  | .cons s r => by unfold Blk.ren Blk.tot; rw [Stm.ren_tot f s, Blk.ren_tot f r]
end
section
variable {f : Str → Str} {N : List Str} (hf : ∀ x ∈ N, nmB (f x) = true)
include hf
theorem Ex.ren_fit : ∀ {k : Nat} {e : Ex}, exF k e → e.Nm N → exF k (e.ren f)
  | 0, _, h, _ => h.elim
  | k + 1, .num n, h, _ => h
  | k + 1, .loc n, h, _ => h
  | k + 1, .var n, h, _ => h
  | k + 1, .has t e, h, n => ⟨hf t n.1, Ex.ren_fit h.2 n.2⟩
  | k + 1, .cell t e, h, n => ⟨hf t n.1, Ex.ren_fit h.2 n.2⟩
  | k + 1, .op o a b, h, n => ⟨h.1, Ex.ren_fit h.2.1 n.1, Ex.ren_fit h.2.2 n.2⟩
mutual
theorem Stm.ren_fit {k : Nat} : ∀ {d : Nat} {s : Stm}, stF k d s → s.Nm N → stF k d (s.ren f)
  | 0, .ite _ _ _, h, _ => by unfold stF at h; exact h.elim
  | d + 1, .ite e a b, h, n => by
    unfold stF at h
    unfold Stm.Nm at n
    unfold Stm.ren stF
    rw [Blk.ren_len, Blk.ren_len]
    exact ⟨Ex.ren_fit hf h.1 n.1, Blk.ren_fit h.2.1 n.2.1, Blk.ren_fit h.2.2.1 n.2.2, h.2.2.2.1, h.2.2.2.2⟩
  | 0, .after _, h, _ => by unfold stF at h; exact h.elim
  | d + 1, .after a, h, n => by
    unfold stF at h
    unfold Stm.Nm at n
    unfold Stm.ren stF
    rw [Blk.ren_len]
    exact ⟨Blk.ren_fit h.1 n, h.2⟩
  | d, .set x e, h, n => by unfold stF at h; unfold Stm.Nm at n; unfold Stm.ren stF; exact ⟨h.1, Ex.ren_fit hf h.2 n⟩
  | d, .lt x e, h, n => by unfold stF at h; unfold Stm.Nm at n; unfold Stm.ren stF; exact ⟨h.1, Ex.ren_fit hf h.2 n⟩
  | d, .draw x e, h, n => by unfold Stm.ren; exact h
  | d, .put x e g, h, n => by unfold stF at h; unfold Stm.Nm at n; unfold Stm.ren stF; exact ⟨hf x n.1, Ex.ren_fit hf h.2.1 n.2.1, Ex.ren_fit hf h.2.2 n.2.2⟩
  | d, .lot x o e, h, n => by unfold stF at h; unfold Stm.Nm at n; unfold Stm.ren stF; exact ⟨h.1, hf o n.1, Ex.ren_fit hf h.2.2 n.2⟩
  | d, .ask x o e, h, n => by unfold Stm.Nm at n; exact n.elim
  | d, .bad, h, n => by unfold Stm.ren; exact h
theorem Blk.ren_fit {k : Nat} : ∀ {d : Nat} {b : Blk}, blF k d b → b.Nm N → blF k d (b.ren f)
  | d, .nil, _, _ => by unfold Blk.ren blF; trivial
  | d, .cons s r, h, n => by
    unfold blF at h
    unfold Blk.Nm at n
    unfold Blk.ren blF
    exact ⟨Stm.ren_fit h.1 n.1, Blk.ren_fit h.2 n.2⟩
end
end
/-- a dict of names: what it tells of those in N -/
def DcN (H : Hp) (d : Addr) (f : Str → Str) (N : List Str) : Prop := (∃ o, H d = some o) ∧ ∀ x ∈ N, ∀ H', Same H H' → DGet H' d (.str x) (some (.str (f x)))
theorem DcN.grow {H H' : Hp} {d : Addr} {f : Str → Str} {N : List Str} (h : DcN H d f N) (m : Same H H') : DcN H' d f N := ⟨let ⟨o, e⟩ := h.1; ⟨o, m _ _ e⟩, fun x hx H2 m2 => h.2 x hx H2 (m.trans m2)⟩
theorem DcN.get {H : Hp} {d : Addr} {f : Str → Str} {N : List Str} (h : DcN H d f N) {x : Str} (hx : x ∈ N) : DGet H d (.str x) (some (.str (f x))) := h.2 x hx H (Same.refl _)
end Gm
set_option Elab.async false
set_option linter.all false
set_option maxRecDepth 100000
set_option maxHeartbeats 4000000
/-! How large drawn games are; their names. -/
namespace Gm
open PySem L2
open PyData (strOk)
/-! ### how large -/
theorem tot_nil : Blk.nil.tot = 0 := by unfold Blk.tot; rfl
theorem tot_cons (s : Stm) (r : Blk) : (Blk.cons s r).tot = s.tot + r.tot := by rw [Blk.tot]
theorem tot_app : ∀ (l m : List Stm), (Blk.of (l ++ m)).tot = (Blk.of l).tot + (Blk.of m).tot
  | [], m => by show (Blk.of m).tot = Blk.nil.tot + _; rw [tot_nil, Nat.zero_add]
  | s :: l, m => by
    have ih := tot_app l m
    show (Blk.cons s (Blk.of (l ++ m))).tot = (Blk.cons s (Blk.of l)).tot + _
    rw [tot_cons, tot_cons, ih]
    omega
theorem tot_one (s : Stm) : (Blk.of [s]).tot = s.tot := by
  show (Blk.cons s Blk.nil).tot = _
  unfold Blk.tot
  rw [tot_nil]
  rfl
def bd : Nat → Nat
  | 0 => 1
  | d + 1 => 1 + 8 * bd d
mutual
theorem tot_ok {s : Sc} {k : Nat} : ∀ {d : Nat} {x : Stm}, x.Ok s k d → x.tot ≤ bd d
  | 0, .ite _ _ _, h => by unfold Stm.Ok at h; exact h.elim
  | d + 1, .ite e a b, h => by
    unfold Stm.Ok at h
    have h1 := tot_okB h.2.1
    have h2 := tot_okB h.2.2.1
    have h3 := Nat.mul_le_mul_right (bd d) h.2.2.2.1
    have h4 := Nat.mul_le_mul_right (bd d) h.2.2.2.2
    unfold Stm.tot bd
    omega
  | 0, .after _, h => by unfold Stm.Ok at h; exact h.elim
  | d + 1, .after a, h => by
    unfold Stm.Ok at h
    have h1 := tot_okB h.1
    have h3 := Nat.mul_le_mul_right (bd d) h.2
    unfold Stm.tot bd
    omega
  | d, .set y e, h => by unfold Stm.tot; exact bd_pos d
  | d, .lt y e, h => by unfold Stm.tot; exact bd_pos d
  | d, .draw y e, h => by unfold Stm.tot; exact bd_pos d
  | d, .put y e f, h => by unfold Stm.tot; exact bd_pos d
  | d, .lot y o e, h => by unfold Stm.tot; exact bd_pos d
  | d, .ask y o e, h => by unfold Stm.tot; exact bd_pos d
  | d, .bad, h => by unfold Stm.tot; exact bd_pos d
theorem tot_okB {s : Sc} {k : Nat} : ∀ {d : Nat} {b : Blk}, b.Ok s k d → b.tot ≤ b.len * bd d
  | d, .nil, _ => by unfold Blk.tot; exact Nat.zero_le _
  | d, .cons x r, h => by
    unfold Blk.Ok at h
    have h1 := tot_ok h.1
    have h2 := tot_okB h.2
    unfold Blk.tot Blk.len
    rw [Nat.succ_mul]
    omega
theorem bd_pos : ∀ d : Nat, 1 ≤ bd d
  | 0 => Nat.le_refl _
  | d + 1 => by unfold bd; omega
end
theorem split_at {l : List Stm} {i : Nat} {s : Stm} (h : l[i]? = some s) : l = l.take i ++ [s] ++ l.drop (i + 1) := by
  have h1 := (List.getElem?_eq_some_iff.mp h)
  obtain ⟨h1, h2⟩ := h1
  rw [List.append_assoc]
  conv => lhs; rw [← List.take_append_drop i l, List.drop_eq_getElem_cons h1, h2]
  rfl
theorem tot_set {l : List Stm} {i : Nat} {s t : Stm} (h : l[i]? = some s) : (Blk.of (l.take i ++ [t] ++ l.drop (i + 1))).tot + s.tot = (Blk.of l).tot + t.tot := by
  have e := congrArg (fun l => (Blk.of l).tot) (split_at h)
  rw [e]
  simp only [tot_app, tot_one]
  omega
theorem blk_len_tot : ∀ b : Blk, b.l.length ≤ b.tot
  | .nil => by unfold Blk.l; exact Nat.zero_le _
  | .cons s r => by
    have h1 := blk_len_tot r
    have h2 := Stm.tot_pos s
    unfold Blk.l Blk.tot
    rw [List.length_cons]
    omega
theorem ok_tot {G : Ga} (h : GaOk G) {p : Pr} (hp : p ∈ G.procs) : p.block.tot ≤ 292 := by
  have o := h.proc p hp
  have t := tot_okB o.block
  have l := Nat.mul_le_mul_right (bd 2) o.len.2
  have e : bd 2 = 73 := by decide
  rw [e] at t l
  omega
theorem at_nat {vs : List V} {i : Int} (h0 : 0 ≤ i) (h1 : i < ((vs.length : Nat) : Int)) : ∃ j : Nat, i = (j : Int) ∧ j < vs.length := ⟨i.toNat, by omega, by omega⟩
theorem dps_take {K : PySem.W.Frag} {H : Hp} : ∀ {vs : List V} {ds : List PyData}, DpAll K H vs ds → ∀ i : Nat, DpAll K H (vs.take i) (ds.take i)
  | _, _, _, 0 => by rw [List.take_zero, List.take_zero]; exact .nil
  | _, _, .nil, i + 1 => by rw [List.take_nil, List.take_nil]; exact .nil
  | _, _, .cons h t, i + 1 => .cons h (dps_take t i)
theorem dps_drop {K : PySem.W.Frag} {H : Hp} : ∀ {vs : List V} {ds : List PyData}, DpAll K H vs ds → ∀ i : Nat, DpAll K H (vs.drop i) (ds.drop i)
  | _, _, h, 0 => h
  | _, _, .nil, i + 1 => .nil
  | _, _, .cons h t, i + 1 => dps_drop t i
theorem tot_ite (e : Ex) (a b : Blk) : (Stm.ite e a b).tot = 1 + a.tot + b.tot := by rw [Stm.tot]
theorem tot_aft (a : Blk) : (Stm.after a).tot = 1 + a.tot := by rw [Stm.tot]
theorem dig3 {i : Nat} (h : i < 3) : ∃ d : Int, atI [V.int 30, .int 90, .int 270] (0 + (i : Int)) = some (.int d) ∧ 0 < d ∧ d ≤ 65535 := by
  have : i = 0 ∨ i = 1 ∨ i = 2 := by omega
  rcases this with rfl | rfl | rfl
  · exact ⟨30, rfl, by decide, by decide⟩
  · exact ⟨90, rfl, by decide, by decide⟩
  · exact ⟨270, rfl, by decide, by decide⟩
theorem way3 {r : Int} {x y z : V} : (atI [x, y, z] (r % 3) = some x) ∨ (atI [x, y, z] (r % 3) = some y) ∨ (atI [x, y, z] (r % 3) = some z) := by
  have : r % 3 = 0 ∨ r % 3 = 1 ∨ r % 3 = 2 := by omega
  rcases this with e | e | e <;> rw [e]
  · exact .inl rfl
  · exact .inr (.inl rfl)
  · exact .inr (.inr rfl)
theorem two_locs {G : Ga} (h : GaOk G) {p : Pr} (hp : p ∈ G.procs) : ∃ (x y : Str) (r : List Str), p.locs = x :: y :: r ∧ nmB x = true ∧ nmB y = true := by
  rcases (h.proc p hp).locs with e | e
  · exact ⟨_, _, _, e, by decide +kernel, by decide +kernel⟩
  · exact ⟨_, _, _, e, by decide +kernel, by decide +kernel⟩

theorem Ex.nm_ok {s : Sc} {N : List Str} (h : ∀ t ∈ s.tabs, t ∈ N) : ∀ {k : Nat} {e : Ex}, e.Ok s k → e.Nm N
  | 0, _, o => o.elim
  | _ + 1, .num _, _ => trivial
  | _ + 1, .loc _, _ => trivial
  | _ + 1, .var _, _ => trivial
  | k + 1, .has t e, o => ⟨h t o.1, Ex.nm_ok h o.2⟩
  | k + 1, .cell t e, o => ⟨h t o.1, Ex.nm_ok h o.2⟩
  | k + 1, .op _ a b, o => ⟨Ex.nm_ok h o.2.1, Ex.nm_ok h o.2.2⟩
section
variable {s : Sc} {N : List Str} (h : ∀ t ∈ s.tabs, t ∈ N) (hl : ∀ t ∈ s.lots, t ∈ N) (ha : s.asks = [])
include h hl ha
mutual
theorem Stm.nm_ok {k : Nat} : ∀ {d : Nat} {x : Stm}, x.Ok s k d → x.Nm N
  | 0, .ite _ _ _, o => by unfold Stm.Ok at o; exact o.elim
  | d + 1, .ite e a b, o => by unfold Stm.Ok at o; unfold Stm.Nm; exact ⟨Ex.nm_ok h o.1, Blk.nm_ok o.2.1, Blk.nm_ok o.2.2.1⟩
  | 0, .after _, o => by unfold Stm.Ok at o; exact o.elim
  | d + 1, .after a, o => by unfold Stm.Ok at o; unfold Stm.Nm; exact Blk.nm_ok o.1
  | d, .set _ _, o => by unfold Stm.Ok at o; unfold Stm.Nm; exact Ex.nm_ok h o.2
  | d, .lt _ _, o => by unfold Stm.Ok at o; unfold Stm.Nm; exact Ex.nm_ok h o.2
  | d, .draw _ _, o => by unfold Stm.Nm; trivial
  | d, .put t _ _, o => by unfold Stm.Ok at o; unfold Stm.Nm; exact ⟨h t o.1, Ex.nm_ok h o.2.1, Ex.nm_ok h o.2.2⟩
  | d, .lot _ t _, o => by unfold Stm.Ok at o; unfold Stm.Nm; exact ⟨hl t o.2.1, Ex.nm_ok h o.2.2⟩
  | d, .ask _ _ _, o => by unfold Stm.Ok at o; rw [ha] at o; exact nomatch o.2.1
  | d, .bad, o => by unfold Stm.Nm; trivial
theorem Blk.nm_ok {k : Nat} : ∀ {d : Nat} {b : Blk}, b.Ok s k d → b.Nm N
  | d, .nil, _ => by unfold Blk.Nm; trivial
  | d, .cons x r, o => by unfold Blk.Ok at o; unfold Blk.Nm; exact ⟨Stm.nm_ok o.1, Blk.nm_ok o.2⟩
end
end
def N6 : List Str := ["t", "m", "o", "k", "p", "r"]
structure SunkOk (G : Ga) : Prop where
  n : G.procs.length ≤ 2
  f : GaF 5 5 G
  t : ∀ p ∈ G.procs, p.block.tot ≤ 300 ∧ p.block.l.length ≤ 100
  u : Uniq G.procs
  g : ∀ p ∈ G.procs, p.name ∈ N6 ∧ p.block.Nm N6 ∧ p.res.Nm N6
  rt : ∀ t ∈ G.tabs, t.1 ∈ N6
  rl : ∀ t ∈ G.lots, t.1 ∈ N6
  z : G.vars.length ≤ 2 ∧ G.tabs.length ≤ 2 ∧ G.lots.length ≤ 2
  dl : G.lots.map (·.1) = ([] : List Str) ∨ G.lots.map (·.1) = (["o"] : List Str) ∨ G.lots.map (·.1) = (["o", "k"] : List Str)
  cl : ∀ t ∈ G.lots, t.2.2 = 2
theorem rows2 {α : Type} {ts : List (Str × α)} {a b : Str} (h : ts.map (·.1) = ([] : List Str) ∨ ts.map (·.1) = ([a] : List Str) ∨ ts.map (·.1) = ([a, b] : List Str)) : ts.length ≤ 2 ∧ ∀ t ∈ ts, t.1 = a ∨ t.1 = b := by
  refine ⟨?_, fun t ht => ?_⟩
  · rw [← List.length_map (f := (·.1))]
    rcases h with e | e | e <;> rw [e] <;> simp
  · have : t.1 ∈ ts.map (·.1) := List.mem_map.mpr ⟨t, ht, rfl⟩
    rcases h with e | e | e <;> rw [e] at this <;> simp at this
    · exact .inl this
    · exact this
theorem SunkOk.ofOk {G : Ga} (h : GaOk G) : SunkOk G := by
  have z1 := rows2 h.vars
  have z2 := rows2 h.tabs
  have z3 := rows2 h.lots
  have ht : ∀ t ∈ G.tabs, t.1 ∈ N6 := fun t m => by rcases z2.2 t m with e | e <;> rw [e] <;> decide +kernel
  have hl : ∀ t ∈ G.lots, t.1 ∈ N6 := fun t m => by rcases z3.2 t m with e | e <;> rw [e] <;> decide +kernel
  refine ⟨(ga_sizes h).1, (GaF.ofOk h).mono (by decide) (by decide), fun p hp => ?_, .ofOk h, fun p hp => ?_, ht, hl, ⟨z1.1, z2.1, z3.1⟩, h.lots, fun t ht => (h.lot t ht).2⟩
  · have t := ok_tot h hp
    have l := (h.proc p hp).len
    rw [Blk.len_l]
    omega
  · have o := h.proc p hp
    have t1 : ∀ x ∈ (G.sc p.locs []).tabs, x ∈ N6 := fun x hx => by
      obtain ⟨t, m, rfl⟩ := List.mem_map.mp hx
      exact ht t m
    have t2 : ∀ x ∈ (G.sc p.locs []).lots, x ∈ N6 := fun x hx => by
      obtain ⟨t, m, rfl⟩ := List.mem_map.mp hx
      exact hl t m
    refine ⟨?_, Blk.nm_ok t1 t2 rfl o.block, Ex.nm_ok t1 o.res⟩
    have : p.name ∈ G.procs.map (·.name) := List.mem_map.mpr ⟨p, hp, rfl⟩
    rcases h.procs with e | e <;> rw [e] at this <;> simp at this
    · rw [this]; decide +kernel
    · rcases this with e | e <;> rw [e] <;> decide +kernel
end Gm
set_option Elab.async false
set_option linter.all false
set_option maxRecDepth 100000
set_option maxHeartbeats 4000000
/-! Which places a game's statements name: few. -/
namespace Gm
open PySem L2
def Ex.Pl (N : List (Str × Str)) (e : Ex) : Prop := ∀ p ∈ e.reads, p ∈ N
mutual
def Stm.Pl (N : List (Str × Str)) : Stm → Prop
  | .set x e => (("variable" : Str), x) ∈ N ∧ e.Pl N
  | .lt x e => (("local" : Str), x) ∈ N ∧ e.Pl N
  | .draw x _ => (("local" : Str), x) ∈ N
  | .put t e g => (("table" : Str), t) ∈ N ∧ e.Pl N ∧ g.Pl N
  | .lot l o e => (("local" : Str), l) ∈ N ∧ (("lots" : Str), o) ∈ N ∧ e.Pl N
  | .ask l _ e => (("local" : Str), l) ∈ N ∧ e.Pl N
  | .ite e a b => e.Pl N ∧ a.Pl N ∧ b.Pl N
  | .bad => (("bad" : Str), ("" : Str)) ∈ N
  | .after a => (("bad" : Str), ("" : Str)) ∈ N ∧ a.Pl N
def Blk.Pl (N : List (Str × Str)) : Blk → Prop
  | .nil => True
  | .cons s r => s.Pl N ∧ r.Pl N
end
theorem Blk.pl_l {N : List (Str × Str)} : ∀ {b : Blk}, b.Pl N → ∀ s ∈ b.l, s.Pl N
  | .nil, _, s, hs => by unfold Blk.l at hs; cases hs
  | .cons x r, h, s, hs => by
    unfold Blk.Pl at h
    unfold Blk.l at hs
    rcases List.mem_cons.mp hs with rfl | hs
    · exact h.1
    · exact Blk.pl_l h.2 s hs
theorem Blk.pl_of {N : List (Str × Str)} : ∀ {l : List Stm}, (∀ s ∈ l, s.Pl N) → (Blk.of l).Pl N
  | [], _ => by show Blk.nil.Pl N; unfold Blk.Pl; trivial
  | s :: l, h => by
    show (Blk.cons s (Blk.of l)).Pl N
    unfold Blk.Pl
    exact ⟨h s (List.mem_cons_self ..), Blk.pl_of fun x hx => h x (List.mem_cons_of_mem _ hx)⟩
section
variable {N : List (Str × Str)}
mutual
theorem Stm.pl_all : ∀ {s : Stm}, s.Pl N → ∀ x ∈ s.all, (∀ p ∈ x.rd, p ∈ N) ∧ ∀ p ∈ x.wr, p ∈ N
  | .ite e a b, h, x, hx => by
    unfold Stm.Pl at h
    unfold Stm.all at hx
    rcases List.mem_cons.mp hx with rfl | hx
    · exact ⟨fun p hp => h.1 p (by simpa [Stm.rd, Stm.own, Stm.rd2] using hp), fun p hp => by cases hp⟩
    · rcases List.mem_append.mp hx with hx | hx
      · exact Blk.pl_all h.2.1 x hx
      · exact Blk.pl_all h.2.2 x hx
  | .after a, h, x, hx => by
    unfold Stm.Pl at h
    unfold Stm.all at hx
    rcases List.mem_cons.mp hx with rfl | hx
    · exact ⟨fun p hp => by rw [show p = (("bad" : Str), ("" : Str)) by simpa [Stm.rd, Stm.own, Stm.rd2] using hp]; exact h.1, fun p hp => by cases hp⟩
    · exact Blk.pl_all h.2 x hx
  | .set y e, h, x, hx => by
    unfold Stm.Pl at h
    unfold Stm.all at hx
    rw [List.mem_singleton.mp hx]
    exact ⟨fun p hp => h.2 p (by simpa [Stm.rd, Stm.own, Stm.rd2] using hp), fun p hp => by rw [List.mem_singleton.mp hp]; exact h.1⟩
  | .lt y e, h, x, hx => by
    unfold Stm.Pl at h
    unfold Stm.all at hx
    rw [List.mem_singleton.mp hx]
    exact ⟨fun p hp => h.2 p (by simpa [Stm.rd, Stm.own, Stm.rd2] using hp), fun p hp => by rw [List.mem_singleton.mp hp]; exact h.1⟩
  | .draw y e, h, x, hx => by
    unfold Stm.Pl at h
    unfold Stm.all at hx
    rw [List.mem_singleton.mp hx]
    exact ⟨fun p hp => (by cases hp), fun p hp => by rw [List.mem_singleton.mp hp]; exact h⟩
  | .put y e g, h, x, hx => by
    unfold Stm.Pl at h
    unfold Stm.all at hx
    rw [List.mem_singleton.mp hx]
    refine ⟨fun p hp => ?_, fun p hp => by rw [List.mem_singleton.mp hp]; exact h.1⟩
    have : p ∈ e.reads ∨ p ∈ g.reads := by simpa [Stm.rd, Stm.own, Stm.rd2] using hp
    exact this.elim (h.2.1 p) (h.2.2 p)
  | .lot y o e, h, x, hx => by
    unfold Stm.Pl at h
    unfold Stm.all at hx
    rw [List.mem_singleton.mp hx]
    refine ⟨fun p hp => ?_, fun p hp => ?_⟩
    · have : p ∈ e.reads ∨ p = (("lots" : Str), o) := by simpa [Stm.rd, Stm.own, Stm.rd2] using hp
      rcases this with z | z
      · exact h.2.2 p z
      · rw [z]; exact h.2.1
    · have : p = (("local" : Str), y) ∨ p = (("lots" : Str), o) := by simpa [Stm.wr] using hp
      rcases this with z | z
      · rw [z]; exact h.1
      · rw [z]; exact h.2.1
  | .ask y o e, h, x, hx => by
    unfold Stm.Pl at h
    unfold Stm.all at hx
    rw [List.mem_singleton.mp hx]
    exact ⟨fun p hp => h.2 p (by simpa [Stm.rd, Stm.own, Stm.rd2] using hp), fun p hp => by rw [List.mem_singleton.mp hp]; exact h.1⟩
  | .bad, h, x, hx => by
    unfold Stm.Pl at h
    unfold Stm.all at hx
    rw [List.mem_singleton.mp hx]
    exact ⟨fun p hp => (by cases hp), fun p hp => by rw [List.mem_singleton.mp hp]; exact h⟩
theorem Blk.pl_all : ∀ {b : Blk}, b.Pl N → ∀ x ∈ b.all, (∀ p ∈ x.rd, p ∈ N) ∧ ∀ p ∈ x.wr, p ∈ N
  | .nil, _, x, hx => by unfold Blk.all at hx; cases hx
  | .cons s r, h, x, hx => by
    unfold Blk.Pl at h
    unfold Blk.all at hx
    rcases List.mem_append.mp hx with hx | hx
    · exact Stm.pl_all h.1 x hx
    · exact Blk.pl_all h.2 x hx
end
/-- a scope's places lie in N -/
structure ScPl (s : Sc) (N : List (Str × Str)) : Prop where
  l : ∀ x ∈ s.locs, (("local" : Str), x) ∈ N
  v : ∀ x ∈ s.vars, (("variable" : Str), x) ∈ N
  t : ∀ x ∈ s.tabs, (("table" : Str), x) ∈ N
  o : ∀ x ∈ s.lots, (("lots" : Str), x) ∈ N
  b : (("bad" : Str), ("" : Str)) ∈ N
variable {s : Sc} (h : ScPl s N)
include h
theorem Ex.pl_ok : ∀ {k : Nat} {e : Ex}, e.Ok s k → e.Pl N
  | 0, _, o => o.elim
  | _ + 1, .num _, _ => fun p hp => by cases hp
  | _ + 1, .loc x, o => fun p hp => by rw [show p = (("local" : Str), x) from List.mem_singleton.mp hp]; exact h.l x o
  | _ + 1, .var x, o => fun p hp => by rw [show p = (("variable" : Str), x) from List.mem_singleton.mp hp]; exact h.v x o
  | k + 1, .has t e, o => fun p hp => by
    rcases List.mem_cons.mp (show p ∈ (("table" : Str), t) :: e.reads from hp) with z | z
    · rw [z]; exact h.t t o.1
    · exact Ex.pl_ok o.2 p z
  | k + 1, .cell t e, o => fun p hp => by
    rcases List.mem_cons.mp (show p ∈ (("table" : Str), t) :: e.reads from hp) with z | z
    · rw [z]; exact h.t t o.1
    · exact Ex.pl_ok o.2 p z
  | k + 1, .op _ a b, o => fun p hp => by
    have e : (Ex.op ‹_› a b).reads = a.reads ++ b.reads := by unfold Ex.reads; rw [Ex.subs, List.filterMap_cons, List.filterMap_append]; rfl
    rw [e] at hp
    rcases List.mem_append.mp hp with z | z
    · exact Ex.pl_ok o.2.1 p z
    · exact Ex.pl_ok o.2.2 p z
mutual
theorem Stm.pl_ok {k : Nat} (ha : s.asks = []) : ∀ {d : Nat} {x : Stm}, x.Ok s k d → x.Pl N
  | 0, .ite _ _ _, o => by unfold Stm.Ok at o; exact o.elim
  | d + 1, .ite e a b, o => by unfold Stm.Ok at o; unfold Stm.Pl; exact ⟨Ex.pl_ok h o.1, Blk.pl_ok ha o.2.1, Blk.pl_ok ha o.2.2.1⟩
  | 0, .after _, o => by unfold Stm.Ok at o; exact o.elim
  | d + 1, .after a, o => by unfold Stm.Ok at o; unfold Stm.Pl; exact ⟨h.b, Blk.pl_ok ha o.1⟩
  | d, .set x _, o => by unfold Stm.Ok at o; unfold Stm.Pl; exact ⟨h.v x o.1, Ex.pl_ok h o.2⟩
  | d, .lt x _, o => by unfold Stm.Ok at o; unfold Stm.Pl; exact ⟨h.l x o.1, Ex.pl_ok h o.2⟩
  | d, .draw x _, o => by unfold Stm.Ok at o; unfold Stm.Pl; exact h.l x o.1
  | d, .put t _ _, o => by unfold Stm.Ok at o; unfold Stm.Pl; exact ⟨h.t t o.1, Ex.pl_ok h o.2.1, Ex.pl_ok h o.2.2⟩
  | d, .lot l t _, o => by unfold Stm.Ok at o; unfold Stm.Pl; exact ⟨h.l l o.1, h.o t o.2.1, Ex.pl_ok h o.2.2⟩
  | d, .ask _ _ _, o => by unfold Stm.Ok at o; rw [ha] at o; exact nomatch o.2.1
  | d, .bad, o => by unfold Stm.Pl; exact h.b
theorem Blk.pl_ok {k : Nat} (ha : s.asks = []) : ∀ {d : Nat} {b : Blk}, b.Ok s k d → b.Pl N
  | d, .nil, _ => by unfold Blk.Pl; trivial
  | d, .cons x r, o => by unfold Blk.Ok at o; unfold Blk.Pl; exact ⟨Stm.pl_ok ha o.1, Blk.pl_ok ha o.2⟩
end
end
/-! ### other names -/
def renP (f : Str → Str) (p : Str × Str) : Str × Str := if p.1 = "table" ∨ p.1 = "lots" then (p.1, f p.2) else p
theorem renP_t (f : Str → Str) (x : Str) : renP f (("table" : Str), x) = (("table" : Str), f x) := by unfold renP; rw [if_pos (.inl rfl)]
theorem renP_o (f : Str → Str) (x : Str) : renP f (("lots" : Str), x) = (("lots" : Str), f x) := by unfold renP; rw [if_pos (.inr rfl)]
theorem renP_l (f : Str → Str) (x : Str) : renP f (("local" : Str), x) = (("local" : Str), x) := by unfold renP; rw [if_neg (by show ¬ ((("local" : Str) = "table") ∨ ("local" : Str) = "lots"); decide +kernel)]
theorem renP_v (f : Str → Str) (x : Str) : renP f (("variable" : Str), x) = (("variable" : Str), x) := by unfold renP; rw [if_neg (by show ¬ ((("variable" : Str) = "table") ∨ ("variable" : Str) = "lots"); decide +kernel)]
theorem renP_b (f : Str → Str) (x : Str) : renP f (("bad" : Str), x) = (("bad" : Str), x) := by unfold renP; rw [if_neg (by show ¬ ((("bad" : Str) = "table") ∨ ("bad" : Str) = "lots"); decide +kernel)]
section
variable {f : Str → Str} {N : List (Str × Str)}
theorem inP {p : Str × Str} (h : p ∈ N) : renP f p ∈ N.map (renP f) := List.mem_map.mpr ⟨p, h, rfl⟩
theorem Ex.ren_reads : ∀ e : Ex, (e.ren f).reads = e.reads.map (renP f)
  | .num _ => rfl
  | .loc x => by show [(("local" : Str), x)] = [renP f (("local" : Str), x)]; rw [renP_l]
  | .var x => by show [(("variable" : Str), x)] = [renP f (("variable" : Str), x)]; rw [renP_v]
  | .has t e => by show (("table" : Str), f t) :: (e.ren f).reads = renP f (("table" : Str), t) :: e.reads.map (renP f); rw [renP_t, Ex.ren_reads e]
  | .cell t e => by show (("table" : Str), f t) :: (e.ren f).reads = renP f (("table" : Str), t) :: e.reads.map (renP f); rw [renP_t, Ex.ren_reads e]
  | .op o a b => by
    have e : ∀ a b : Ex, (Ex.op o a b).reads = a.reads ++ b.reads := fun a b => by unfold Ex.reads; rw [Ex.subs, List.filterMap_cons, List.filterMap_append]; rfl
    show (Ex.op o (a.ren f) (b.ren f)).reads = _
    rw [e, e, List.map_append, Ex.ren_reads a, Ex.ren_reads b]
theorem Ex.pl_ren {e : Ex} (h : e.Pl N) : (e.ren f).Pl (N.map (renP f)) := fun p hp => by
  rw [Ex.ren_reads] at hp
  obtain ⟨q, hq, rfl⟩ := List.mem_map.mp hp
  exact inP (h q hq)
mutual
theorem Stm.pl_ren : ∀ {s : Stm}, s.Pl N → (s.ren f).Pl (N.map (renP f))
  | .ite e a b, h => by unfold Stm.Pl at h; unfold Stm.ren Stm.Pl; exact ⟨Ex.pl_ren h.1, Blk.pl_ren h.2.1, Blk.pl_ren h.2.2⟩
  | .after a, h => by unfold Stm.Pl at h; unfold Stm.ren Stm.Pl; exact ⟨by rw [← renP_b f]; exact inP h.1, Blk.pl_ren h.2⟩
  | .set y e, h => by unfold Stm.Pl at h; unfold Stm.ren Stm.Pl; exact ⟨by rw [← renP_v f]; exact inP h.1, Ex.pl_ren h.2⟩
  | .lt y e, h => by unfold Stm.Pl at h; unfold Stm.ren Stm.Pl; exact ⟨by rw [← renP_l f]; exact inP h.1, Ex.pl_ren h.2⟩
  | .draw y e, h => by unfold Stm.Pl at h; unfold Stm.ren Stm.Pl; rw [← renP_l f]; exact inP h
  | .put y e g, h => by unfold Stm.Pl at h; unfold Stm.ren Stm.Pl; exact ⟨by rw [← renP_t f]; exact inP h.1, Ex.pl_ren h.2.1, Ex.pl_ren h.2.2⟩
  | .lot y o e, h => by unfold Stm.Pl at h; unfold Stm.ren Stm.Pl; exact ⟨by rw [← renP_l f]; exact inP h.1, by rw [← renP_o f]; exact inP h.2.1, Ex.pl_ren h.2.2⟩
  | .ask y o e, h => by unfold Stm.Pl at h; unfold Stm.ren Stm.Pl; exact ⟨by rw [← renP_l f]; exact inP h.1, Ex.pl_ren h.2⟩
  | .bad, h => by unfold Stm.Pl at h; unfold Stm.ren Stm.Pl; rw [← renP_b f]; exact inP h
theorem Blk.pl_ren : ∀ {b : Blk}, b.Pl N → (b.ren f).Pl (N.map (renP f))
  | .nil, _ => by unfold Blk.ren Blk.Pl; trivial
  | .cons s r, h => by unfold Blk.Pl at h; unfold Blk.ren Blk.Pl; exact ⟨Stm.pl_ren h.1, Blk.pl_ren h.2⟩
end
end
/-- the places of a drawn game -/
def P10 : List (Str × Str) := [("local", "g"), ("local", "a"), ("local", "b"), ("variable", "x"), ("variable", "y"), ("table", "t"), ("table", "m"), ("lots", "o"), ("lots", "k"), ("bad", "")]
def PlOk (G : Ga) (N : List (Str × Str)) : Prop := ∀ p ∈ G.procs, p.block.Pl N ∧ p.res.Pl N
/-- the law's texts tell the places apart -/
def UsInj (N : List (Str × Str)) : Prop := ∀ p ∈ N, ∀ q ∈ N, usB p = usB q → p = q
theorem p10_inj : UsInj P10 := by unfold UsInj P10; decide +kernel
theorem p10_sc {G : Ga} (h : GaOk G) {p : Pr} (hp : p ∈ G.procs) : ScPl (G.sc p.locs []) P10 := by
  have o := h.proc p hp
  refine ⟨fun x hx => ?_, fun x hx => ?_, fun x hx => ?_, fun x hx => ?_, by decide +kernel⟩
  · replace hx : x ∈ p.locs := hx
    rcases o.locs with e | e <;> rw [e] at hx <;> simp at hx
    · rcases hx with rfl | rfl <;> decide +kernel
    · rcases hx with rfl | rfl | rfl <;> decide +kernel
  · replace hx : x ∈ G.vars.map (·.1) := hx
    rcases h.vars with e | e | e <;> rw [e] at hx <;> simp at hx
    · rw [hx]; decide +kernel
    · rcases hx with rfl | rfl <;> decide +kernel
  · replace hx : x ∈ G.tabs.map (·.1) := hx
    rcases h.tabs with e | e | e <;> rw [e] at hx <;> simp at hx
    · rw [hx]; decide +kernel
    · rcases hx with rfl | rfl <;> decide +kernel
  · replace hx : x ∈ G.lots.map (·.1) := hx
    rcases h.lots with e | e | e <;> rw [e] at hx <;> simp at hx
    · rw [hx]; decide +kernel
    · rcases hx with rfl | rfl <;> decide +kernel
theorem PlOk.ofOk {G : Ga} (h : GaOk G) : PlOk G P10 := fun p hp => ⟨Blk.pl_ok (p10_sc h hp) rfl (h.proc p hp).block, Ex.pl_ok (p10_sc h hp) (h.proc p hp).res⟩
end Gm
set_option Elab.async false
set_option linter.all false
set_option maxRecDepth 100000
/-! sets of tuples of texts: set(xs), s & t, len -/
namespace SeT
open PySem PySem.Spec PyProof.Rows L2
/-- the c-th place of a search for h -/
abbrev prb (m : Nat) (h : Int) (c : Nat) : SetTable.Probe := nth m (runAt m (SetTable.bits h % (m + 1)) (SetTable.bits h)) c
theorem nth_dm (m : Nat) : ∀ (n : Nat) (p : SetTable.Probe), p.dummy = none → (nth m p n).dummy = none
  | 0, _, e => e
  | n + 1, p, e => nth_dm m n (adv m p) (by unfold adv; split <;> exact e)
theorem prb_dm (m : Nat) (h : Int) (c : Nat) : (prb m h c).dummy = none := nth_dm m c _ rfl
theorem prb_add (m : Nat) (h : Int) (c q : Nat) : nth m (prb m h c) q = prb m h (c + q) := (nth_add m c _ q).symm
/-- a search that goes on from its c-th place, in whole numbers from the start -/
theorem probe_from {t : SetTable} {hs : List Int} (T : TabOk t hs) (at' : Nat → Int) {h : Int} {c K : Nat} (hc : c ≤ K) (hK : K < 10 * SetTable.turns t.mask) (free : way t.mask h K ∉ t.place.toList)
    (busy : ∀ q, q < K → way t.mask h q ∈ t.place.toList) :
    (∃ q i, c ≤ q ∧ q < K ∧ t.place.toList[i]? = some (way t.mask h q) ∧ at' i = h ∧ (∀ q' i', c ≤ q' → q' < q → t.place.toList[i']? = some (way t.mask h q') → at' i' ≠ h) ∧
      t.probe at' h (prb t.mask h c) = some (.candidate (way t.mask h q) i (prb t.mask h (q + 1)))) ∨
    ((∀ q' i', c ≤ q' → q' < K → t.place.toList[i']? = some (way t.mask h q') → at' i' ≠ h) ∧ t.probe at' h (prb t.mask h c) = some (.empty (way t.mask h K) none)) := by
  have j : ∀ q, (nth t.mask (prb t.mask h c) q).j = way t.mask h (c + q) := fun q => by rw [prb_add]
  rcases go_spec t T.ris T.dm at' h (10 * SetTable.turns t.mask) (K - c) (prb t.mask h c) (prb_dm _ _ _) (by omega) (fun q hq => by rw [j]; exact busy _ (by omega))
    (by rw [j, Nat.add_sub_cancel' hc]; exact free) with ⟨q, i, h1, h2, h3, h4, h5⟩ | ⟨h1, h2⟩
  · refine .inl ⟨c + q, i, Nat.le_add_right _ _, by omega, by rw [← j]; exact h2, h3, fun q' i' a b e => ?_, ?_⟩
    · refine h4 (q' - c) i' (by omega) ?_
      rw [j, Nat.add_sub_cancel' a]
      exact e
    · rw [j, prb_add] at h5
      exact h5
  · refine .inr ⟨fun q' i' a b e => h1 (q' - c) i' (by omega) (by rw [j, Nat.add_sub_cancel' a]; exact e), ?_⟩
    rw [j, Nat.add_sub_cancel' hc] at h2
    exact h2

abbrev kh (P : Program) (w : World) (k : List Str) : Int := tupleKeyHash (strKind P w) k
/-- the object at a is the tuple of the texts k -/
abbrev TT (P : Program) (w : World) (h : Heap) (k : List Str) (a : Addr) : Prop := IsTupleKey (strKind P w) h k a
abbrev Row := Addr × List Str
def ents (P : Program) (w : World) (L : List Row) : List (Int × Value) := L.map fun r => (kh P w r.2, Value.ref r.1)
abbrev hashes (P : Program) (w : World) (L : List Row) : List Int := L.map fun r => kh P w r.2
section
variable {P : Program} {w : World} {A : Around} {E : Value → Shared → Prop} {s : Shared}
theorem texts_of {k : List Str} {vs : List Value} (h : ItemsAre (strKind P w) k vs) : ∀ v ∈ vs, ∃ x t, v = Value.str x t := by
  induction h with
  | nil => exact fun v hv => nomatch hv
  | cons h1 _ ih =>
    intro v hv
    rcases List.mem_cons.mp hv with rfl | m
    · obtain ⟨t, e⟩ := Value.isStrOf_shape h1
      exact ⟨_, t, e⟩
    · exact ih v m
/-- a walk over the parts of a tuple which does nothing and may stop with an answer -/
theorem walk_parts {β : Type} {f : Value → β → Sem (ForInStep β)} {R : β → Prop} {items : Array Value} {b0 : β} {Q : β → Shared → Prop}
    (hf : ∀ v ∈ items.toList, ∀ b, R b → ∃ r, f v b = pure r ∧ ((∃ b', r = .yield b' ∧ R b') ∨ ∃ b', r = .done b' ∧ ∀ s', s' = s → Q b' s')) (h0 : R b0) (hq : ∀ b, R b → Q b s) :
    wpAny (model P w) A (forIn items b0 f) Q E s := by
  rw [← Array.forIn_toList]
  generalize items.toList = l at hf
  induction l generalizing b0 with
  | nil => exact wpAny_pure (hq b0 h0)
  | cons v l ih =>
    obtain ⟨r, e, c⟩ := hf v List.mem_cons_self b0 h0
    rw [List.forIn_cons, e]
    refine wpAny_bind (wpAny_pure ?_)
    rcases c with ⟨b', rfl, hb⟩ | ⟨b', rfl, hb⟩
    · exact ih hb fun u hu => hf u (List.mem_cons_of_mem _ hu)
    · exact wpAny_pure (hb s rfl)
theorem cls_tt {k : List Str} {b : Addr} {Q : Bool → Shared → Prop} (x : TT P w s.heap k b) (h : Q false s) : wpAny (model P w) A (ofAClassStatement 8 (.ref b)) Q E s := by
  have ty := x.typeIs
  obtain ⟨o, items, n, e1, _, e2, it⟩ := x
  have tx := texts_of it
  unfold ofAClassStatement
  refine wpAny_bind (wpAny_typeOf ty ?_)
  simp only [show (("tuple" : String) == "tuple") = true from rfl, if_true]
  show wpAny _ _ (seqItems? (.ref b) >>= _) _ _ s
  refine wpAny_bind (wpAny_seqItems e1 e2 (wpAny_bind ?_))
  refine walk_parts (R := fun r => r.1 = none) (fun v hv r hr => ?_) rfl fun r hr => ?_
  · obtain ⟨y, t, rfl⟩ := tx v hv
    refine ⟨.yield (none, ()), ?_, .inl ⟨_, rfl, rfl⟩⟩
    have e : ofAClassStatement 7 (.str y t) = pure false := rfl
    rw [e] <;> rfl
  · obtain ⟨r1, r2⟩ := r
    obtain rfl : r1 = none := hr
    exact wpAny_pure h
theorem byv_tt {k : List Str} {b : Addr} {Q : Bool → Shared → Prop} (x : TT P w s.heap k b) (h : ∀ y, Q y s) : wpAny (model P w) A (hashByValue 8 (.ref b)) Q E s := by
  have ty := x.typeIs
  obtain ⟨o, items, n, e1, _, e2, it⟩ := x
  have tx := texts_of it
  unfold hashByValue
  refine wpAny_bind (wpAny_specialOf ty F.slot_tuple_hash.lookup ?_)
  show wpAny _ _ (seqItems? (.ref b) >>= _) _ _ s
  refine wpAny_bind (wpAny_seqItems e1 e2 (wpAny_bind ?_))
  refine walk_parts (R := fun r => r.1 = none) (fun v hv r hr => ?_) rfl fun r hr => ?_
  · obtain ⟨y, t, rfl⟩ := tx v hv
    refine ⟨.done (some false, ()), ?_, .inr ⟨_, rfl, fun s' e => ?_⟩⟩
    · have e : hashByValue 7 (.str y t) = pure false := rfl
      rw [e] <;> rfl
    · subst e
      exact wpAny_pure (h false)
  · obtain ⟨r1, r2⟩ := r
    obtain rfl : r1 = none := hr
    exact wpAny_pure (h true)
/-- a loop each of whose rounds goes on and does nothing -/
theorem walk_on {β : Type} {f : Value → β → Sem (ForInStep β)} {R : β → Prop} {Q : β → Shared → Prop} (l : List Value)
    (hf : ∀ v ∈ l, ∀ b, R b → ∀ Z : ForInStep β → Shared → Prop, (∀ b', R b' → Z (.yield b') s) → wpAny (model P w) A (f v b) Z E s) (b0 : β) (h0 : R b0) (hq : ∀ b, R b → Q b s) :
    wpAny (model P w) A (forIn l b0 f) Q E s := by
  induction l generalizing b0 with
  | nil => exact wpAny_pure (hq b0 h0)
  | cons v l ih =>
    rw [List.forIn_cons]
    exact wpAny_bind (hf v List.mem_cons_self b0 h0 _ fun b' hb => ih (fun u hu => hf u (List.mem_cons_of_mem _ hu)) b' hb)
/-- nobody sees a search among tuples of texts -/
theorem unseen_tt {k : List Str} {b : Addr} {Q : Bool → Shared → Prop} (x : TT P w s.heap k b) {ys : List Value} (hy : ∀ y ∈ ys, ∃ k' c, y = Value.ref c ∧ TT P w s.heap k' c) (h : Q false s) :
    wpAny (model P w) A (searchCouldBeSeen (.ref b) ys) Q E s := by
  unfold searchCouldBeSeen
  refine wpAny_bind (walk_on (R := fun r => r.1 = none) ys (fun y hm r hr Z z => ?_) _ rfl fun r hr => ?_)
  · obtain ⟨k', c, rfl, hc⟩ := hy y hm
    dsimp only
    by_cases v : (b == c || (carriedByValue (.ref b) && carriedByValue (.ref c))) = true
    · exact wp_if_pos v (wpAny_pure (z _ rfl))
    · refine wp_if_neg v (wpAny_bind (wpAny_eqIsQuiet_tuple x (wp_if_neg (by decide) ?_)))
      refine wpAny_bind (wpAny_eqIsQuiet_tuple hc (wp_if_neg (by decide) ?_))
      exact wpAny_bind (cls_tt x (wp_if_neg (by decide) (wpAny_bind (cls_tt hc (wp_if_neg (by decide) (wpAny_pure (z _ rfl)))))))
  · obtain ⟨r1, r2⟩ := r
    obtain rfl : r1 = none := hr
    exact wpAny_pure h
/-- a set whose elements are the tuples L, in the order of its table -/
structure SetA (P : Program) (w : World) (h : Heap) (a : Addr) (L : List Row) (es : Array (Int × Value)) (ep : Nat) (t : SetTable) : Prop where
  ob : ∃ o, h.get? a = some o ∧ o.ExactSet ∧ o.data = .set es ep t
  en : es.toList = ents P w L
  tb : TabOk t (hashes P w L)
  un : (L.map (·.2)).Nodup
  tu : ∀ r ∈ L, TT P w h r.2 r.1
  ld : w.params.followText "set-order" = true ∨ t.led = true
  rm : L.length * 5 < t.mask * 3
  fw : L.length < 64
variable {a : Addr} {L : List Row} {es : Array (Int × Value)} {ep : Nat} {t : SetTable}
theorem ents_len {L : List Row} {es : Array (Int × Value)} (e : es.toList = ents P w L) : es.size = L.length := by
  have q := congrArg List.length e
  simpa [ents] using q
theorem SetA.len (R : SetA P w s.heap a L es ep t) : es.size = L.length := ents_len R.en
theorem fits_of {t : SetTable} {es : Array (Int × Value)} (h1 : t.place.size = es.size) (h2 : t.dummies = #[]) (h3 : es.size ≤ t.mask) : t.fits es.size = true := by
  simp [SetTable.fits, SetTable.fill, h1, h2, h3]
theorem SetA.psz (R : SetA P w s.heap a L es ep t) : t.place.size = L.length := by simpa using R.tb.sz
theorem SetA.fits (R : SetA P w s.heap a L es ep t) : t.fits es.size = true := by
  have := R.rm
  exact fits_of (R.psz.trans R.len.symm) R.tb.dm (by rw [R.len]; omega)
theorem ents_at {L : List Row} {es : Array (Int × Value)} (e : es.toList = ents P w L) {i : Nat} {r : Row} (h : L[i]? = some r) : es[i]? = some (kh P w r.2, .ref r.1) := by
  rw [← Array.getElem?_toList, e]
  simp [ents, h]
theorem SetA.gave (R : SetA P w s.heap a L es ep t) : ¬ t.gaveWay = true := by
  have := mask_odd R.tb.mok
  simp [SetTable.gaveWay, this]
/-- the search for a tuple, from its c-th place on -/
theorem SetA.seek (R : SetA P w s.heap a L es ep t) {x : Addr} {k : List Str} (hx : TT P w s.heap k x) (hu : A.units < cLine) (ad : Bool) {K : Nat} (hK : K < 10 * SetTable.turns t.mask)
    (free : way t.mask (kh P w k) K ∉ t.place.toList) (busy : ∀ q, q < K → way t.mask (kh P w k) q ∈ t.place.toList) {Q : SetFound → Shared → Prop}
    (yes : k ∈ L.map (·.2) → ∀ r, (ad = true ∨ r.isSome = true) → Q (.there r) s) (no : k ∉ L.map (·.2) → Q (.free (way t.mask (kh P w k) K) false) s) :
    ∀ (f c : Nat) (st : Option SetTable.Probe), st.getD (t.probeStart (kh P w k)) = prb t.mask (kh P w k) c → c ≤ K → K - c < f →
      (∀ (i : Nat) r, L[i]? = some r → r.2 = k → ∃ q, c ≤ q ∧ q < K ∧ t.place.toList[i]? = some (way t.mask (kh P w k) q)) → wpAny (model P w) A (setSearchFrom a (.ref x) (kh P w k) ad f st) Q E s := by
  intro f
  induction f with
  | zero => exact fun c st _ _ hf => absurd hf (Nat.not_lt_zero _)
  | succ f ih =>
    intro c st hst hc hf ahead
    have ⟨o, ho, _, hd⟩ := R.ob
    have hat : ∀ (i : Nat) r, L[i]? = some r → (fun i => (es[i]?.map (·.1)).getD 0) i = kh P w r.2 := fun i r e => by simp [ents_at R.en e]
    rw [setSearchFrom_succ]
    refine wpAny_bind (wpAny_setState_of ho hd R.fits (wp_if_neg R.gave ?_))
    try refine wpAny_bind (wpAny_pure ?_)
    rw [hst]
    rcases probe_from R.tb (fun i => (es[i]?.map (·.1)).getD 0) hc hK free busy with ⟨q, i, hcq, hqK, hpl, heq, hbefore, e⟩ | ⟨hno, e⟩ <;> rw [e] <;> dsimp only
    · have hil : i < L.length := by
        have := (List.getElem?_eq_some_iff.mp hpl).1
        rw [Array.length_toList, R.psz] at this
        exact this
      obtain ⟨r, hr⟩ : ∃ r, L[i]? = some r := ⟨_, List.getElem?_eq_getElem hil⟩
      have hm := List.mem_of_getElem? hr
      have hslot := slot_live R.tb.ris hpl
      have rest : wpAny (model P w) A (searchRest a (.ref x) (kh P w k) ad f es t (way t.mask (kh P w k) q) i (prb t.mask (kh P w k) (q + 1))) Q E s := by
        unfold searchRest
        rw [ents_at R.en hr]
        refine wpAny_bind (wpAny_holding (wpAny_eqBool_tuple hu (R.tu r hm) hx (wpAny_bind (wpAny_setState_of ho hd R.fits ?_))))
        dsimp only
        by_cases hk : r.2 = k
        · have kin : k ∈ L.map (·.2) := List.mem_map.mpr ⟨r, hm, hk⟩
          cases ad with
          | true => exact wp_if_pos (by simp [hk]) (wpAny_pure (yes kin _ (.inl rfl)))
          | false =>
            refine wp_if_neg (by simp) ?_
            try refine wpAny_bind (wpAny_pure ?_)
            rw [sameMem]
            simp only [if_true, hslot, ents_at R.en hr]
            refine wpAny_bind (wpAny_isSame_ref_self (wpAny_bind (wpAny_pure ?_)))
            simp only [if_true]
            exact wp_if_pos (by simp [hk]) (wpAny_pure (yes kin _ (.inr rfl)))
        · refine wp_if_neg (by simp [hk]) ?_
          try refine wpAny_bind (wpAny_pure ?_)
          rw [sameMem]
          simp only [if_true, hslot, ents_at R.en hr]
          refine wpAny_bind (wpAny_isSame_ref_self (wpAny_bind (wpAny_pure ?_)))
          simp only [if_true]
          refine wp_if_neg (by simp [hk]) (ih (q + 1) _ rfl hqK (by omega) fun i0 r0 h0 hk0 => ?_)
          obtain ⟨q0, b1, b2, b3⟩ := ahead i0 r0 h0 hk0
          refine ⟨q0, ?_, b2, b3⟩
          rcases Nat.lt_trichotomy q0 q with z | z | z
          · exact absurd ((hat i0 r0 h0).trans (by rw [hk0])) (hbefore q0 i0 b1 z b3)
          · subst z
            have e2 := slot_live R.tb.ris b3
            rw [hslot] at e2
            injection e2 with e2
            subst e2
            rw [hr] at h0
            injection h0 with h0
            exact absurd (h0 ▸ hk0) hk
          · exact z
      by_cases hl : t.led = true
      · refine wp_if_neg (by simp [hl]) ?_
        try refine wpAny_bind (wpAny_pure ?_)
        exact rest
      · refine wp_if_pos (by simp [hl]) (wpAny_bind (unseen_tt hx (fun y hy => ?_) ?_))
        · obtain ⟨en, hen, rfl⟩ := List.mem_map.mp hy
          have h1 : en ∈ es.toList := by
            have := hen
            simp at this
            simpa using this.1
          rw [R.en] at h1
          obtain ⟨r2, h2, rfl⟩ := List.mem_map.mp h1
          exact ⟨r2.2, r2.1, rfl, R.tu r2 h2⟩
        · refine wp_if_neg (by decide) ?_
          try refine wpAny_bind (wpAny_pure ?_)
          exact rest
    · refine wpAny_pure (no fun hm => ?_)
      obtain ⟨r, hm, hk⟩ := List.mem_map.mp hm
      obtain ⟨i, hi⟩ := List.getElem?_of_mem hm
      obtain ⟨q, b1, b2, b3⟩ := ahead i r hi hk
      exact hno q i b1 b2 b3 ((hat i r hi).trans (by rw [hk]))
/-- a tuple is searched for -/
theorem SetA.find (R : SetA P w s.heap a L es ep t) {x : Addr} {k : List Str} (hx : TT P w s.heap k x) (hu : A.units < cLine) (ad : Bool) {Q : SetFound → Shared → Prop}
    (yes : k ∈ L.map (·.2) → ∀ r, (ad = true ∨ r.isSome = true) → Q (.there r) s)
    (no : ∀ K, k ∉ L.map (·.2) → way t.mask (kh P w k) K ∉ t.place.toList → (∀ q, q < K → way t.mask (kh P w k) q ∈ t.place.toList) → Q (.free (way t.mask (kh P w k) K) false) s) :
    wpAny (model P w) A (setSearch a (.ref x) (kh P w k) ad) Q E s := by
  have hr := R.rm
  obtain ⟨K, h1, h2, h3⟩ := R.tb.first (by simp; omega) (kh P w k)
  have h4 : K < 100000 := by
    rcases R.tb.mok with e | e | e <;> rw [e] at h1 <;> exact Nat.lt_of_lt_of_le h1 (by decide)
  refine R.seek hx hu ad h1 h2 h3 yes (fun n => no K n h2 h3) 100000 0 none rfl (Nat.zero_le _) (by omega) fun i r hi hk => ?_
  have e1 : (hashes P w L)[i]? = some (kh P w k) := by simp [hi, hk]
  have hl : i < t.place.toList.length := by
    rw [Array.length_toList, R.psz]
    exact (List.getElem?_eq_some_iff.mp hi).1
  obtain ⟨q, hq, e2⟩ := R.tb.before h2 e1 (List.getElem?_eq_getElem hl)
  exact ⟨q, Nat.zero_le _, hq, by rw [List.getElem?_eq_getElem hl, e2]⟩
/-- the tuple is asked for -/
theorem SetA.has (R : SetA P w s.heap a L es ep t) {x : Addr} {k : List Str} (hx : TT P w s.heap k x) (hu : A.units < cLine) {Q : Option Nat → Shared → Prop}
    (yes : k ∈ L.map (·.2) → ∀ r, r.isSome = true → Q r s) (no : k ∉ L.map (·.2) → Q none s) : wpAny (model P w) A (setFind a (.ref x) (kh P w k)) Q E s := by
  have ⟨o, ho, _, hd⟩ := R.ob
  show wpAny _ _ (setFindIn a (.ref x) (kh P w k) (99999 + 1)) Q E s
  unfold setFindIn
  refine wpAny_bind (wpAny_setState_of ho hd R.fits (wp_if_neg (by simp [byScan, Value.scannable]) ?_))
  try refine wpAny_bind (wpAny_pure ?_)
  refine wpAny_bind (R.find hx hu false (fun hm r hr => ?_) fun K hm _ _ => ?_)
  · exact wpAny_pure (yes hm r (by rcases hr with h | h; exact nomatch h; exact h))
  · exact wpAny_pure (no hm)
/-- a write to a set leaves tuples alone -/
theorem tt_but {h h' : Heap} {k : List Str} {b : Addr} {o : Obj} {ep : Nat} (x : TT P w h k b) (ho : h.get? a = some o) (hd : o.data = .set es ep t) (hs : Heap.SameBut a h h') : TT P w h' k b := by
  have ⟨o2, its, n, e1, e2, e3, e4⟩ := x
  refine ⟨o2, its, n, ?_, e2, e3, e4⟩
  rw [hs.2 b fun z => ?_]
  · exact e1
  · subst z
    rw [ho] at e1
    injection e1 with e1
    rw [← e1, hd] at e3
    exact nomatch e3
/-- the elements in another order -/
theorem ents_order (L : List Row) (es : Array (Int × Value)) (ord : Array Nat) (e : es.toList = ents P w L) (pm : ord.toList.Perm (List.range L.length)) :
    ∃ L2 : List Row, L2.Perm L ∧ (ord.filterMap (es[·]?)).toList = ents P w L2 ∧ hashes P w L2 = ord.toList.map fun i => (es.map (·.1)).getD i 0 := by
  have all : ∀ L : List Row, (List.range L.length).filterMap (L[·]?) = L := by
    intro L
    induction L with
    | nil => rfl
    | cons r L ih =>
      rw [List.length_cons, List.range_succ_eq_map, List.filterMap_cons, List.filterMap_map]
      show r :: List.filterMap (L[·]?) (List.range L.length) = r :: L
      rw [ih]
  have both : ∀ l : List Nat, (∀ i ∈ l, i < L.length) → l.filterMap (es[·]?) = ents P w (l.filterMap (L[·]?)) ∧ hashes P w (l.filterMap (L[·]?)) = l.map fun i => (es.map (·.1)).getD i 0 := by
    intro l
    induction l with
    | nil => exact fun _ => ⟨rfl, rfl⟩
    | cons i l ih =>
      intro hin
      obtain ⟨r, e1⟩ : ∃ r, L[i]? = some r := ⟨_, List.getElem?_eq_getElem (hin i List.mem_cons_self)⟩
      have e2 := ents_at e e1
      have e3 : (es.map (·.1))[i]? = some (kh P w r.2) := by simp [e2]
      obtain ⟨h1, h2⟩ := ih fun j hj => hin j (List.mem_cons_of_mem _ hj)
      rw [List.filterMap_cons_some e2, List.filterMap_cons_some e1, h1, List.map_cons, ← h2]
      refine ⟨rfl, ?_⟩
      show kh P w r.2 :: hashes P w (l.filterMap (L[·]?)) = _
      congr 1
      simp [Array.getD_eq_getD_getElem?, e3]
  obtain ⟨h1, h2⟩ := both ord.toList fun i hi => List.mem_range.mp (pm.mem_iff.mp hi)
  refine ⟨ord.toList.filterMap (L[·]?), (pm.filterMap _).trans (by rw [all]), ?_, h2⟩
  rw [Array.toList_filterMap]
  exact h1
/-- what stands of a set between a write and the growing of its table -/
structure SetB (P : Program) (w : World) (h : Heap) (a : Addr) (L : List Row) (es : Array (Int × Value)) (ep : Nat) (t : SetTable) : Prop where
  ob : ∃ o, h.get? a = some o ∧ o.ExactSet ∧ o.data = .set es ep t
  en : es.toList = ents P w L
  tb : TabOk t (hashes P w L)
  un : (L.map (·.2)).Nodup
  tu : ∀ r ∈ L, TT P w h r.2 r.1
  ld : w.params.followText "set-order" = true ∨ t.led = true
  fl : L.length ≤ t.mask
  fw : L.length < 64
theorem SetB.grow (R : SetB P w s.heap a L es ep t) {wanted M : Nat} (hw : SetTable.sizeAbove wanted - 1 = M) (hM : MaskOk M) (hw2 : SetTable.sizeAbove wanted ≤ 128) (hn : L.length * 5 < M * 3) {Q : Unit → Shared → Prop}
    (q : ∀ h' L' es' ep' t', Heap.SameBut a s.heap h' → SetA P w h' a L' es' ep' t' → L'.Perm L → Q () { s with heap := h' }) : wpAny (model P w) A (setRelay a wanted) Q E s := by
  have ⟨o, ho, ⟨x1, x2, x3⟩, hd⟩ := R.ob
  have hl := ents_len R.en
  have hps : t.place.size = es.size := by rw [hl]; simpa using R.tb.sz
  have hf := fits_of hps R.tb.dm (by rw [hl]; exact R.fl)
  have hfw := R.fw
  obtain ⟨t', ord, e, pm, T, em, el, _, _⟩ := relaid_ok t (hs := es.map (·.1)) (wanted := wanted) hw hM (by rw [Array.size_map, hl]; omega)
  rw [Array.size_map, hl] at pm
  obtain ⟨L2, p2, en2, eh⟩ := ents_order L es ord R.en pm
  rw [← eh] at T
  have hs2 := ents_len en2
  rw [p2.length_eq] at hs2
  rw [setRelay_eq]
  refine wpAny_bind (wpAny_setState_of ho hd hf (wp_if_neg (by rw [sizeLine_eq]; omega) ?_))
  try refine wpAny_bind (wpAny_pure ?_)
  rw [e]
  refine wpAny_bind (wp_if_neg (by rw [hs2, hl]; simp) ?_)
  try refine wpAny_bind (wpAny_pure ?_)
  refine wpAny_pure (wpAny_storeSet_of ho hd ?_ (by rw [hs2, sizeLine_eq]; omega))
  have sb : Heap.SameBut a s.heap (s.heap.update a (Obj.putSet (ord.filterMap (es[·]?)) t')) := Heap.SameBut.update ..
  refine q _ L2 _ (ep + 1) t' sb ⟨⟨_, store_at ho hd, ⟨x1, x2, x3⟩, rfl⟩, en2, T, (p2.map _).nodup_iff.mpr R.un, fun r hr => tt_but (R.tu r (p2.mem_iff.mp hr)) ho hd sb, by rw [el]; exact R.ld, ?_, ?_⟩ p2
  · rw [p2.length_eq, em]; exact hn
  · rw [p2.length_eq]; exact hfw
theorem size_after {n m : Nat} (h7 : (m = 7 ∧ n = 5) ∨ (m = 31 ∧ n = 19)) : ∃ M, SetTable.sizeAbove (SetTable.grown n) - 1 = M ∧ MaskOk M ∧ SetTable.sizeAbove (SetTable.grown n) ≤ 128 ∧ n * 5 < M * 3 := by
  rcases h7 with ⟨_, rfl⟩ | ⟨_, rfl⟩
  · exact ⟨31, by rw [size_20], .inr (.inl rfl), by rw [size_20]; decide, by decide⟩
  · exact ⟨127, by rw [size_76], .inr (.inr rfl), by rw [size_76]; decide, by decide⟩
/-- a tuple is put in -/
theorem SetA.add (R : SetA P w s.heap a L es ep t) {x : Addr} {k : List Str} (hx : TT P w s.heap k x) (hu : A.units < cLine) (few : L.length + 1 < 64) {Q : Bool → Shared → Prop}
    (q : ∀ b h' L' es' ep' t', Heap.SameBut a s.heap h' → SetA P w h' a L' es' ep' t' → (k ∈ L.map (·.2) → L' = L) → (k ∉ L.map (·.2) → L'.Perm ((x, k) :: L)) → Q b { s with heap := h' }) :
    wpAny (model P w) A (setAddHashed a (.ref x) (kh P w k)) Q E s := by
  have ⟨o, ho, ⟨x1, x2, x3⟩, hd⟩ := R.ob
  have hl := R.len
  have hrm := R.rm
  unfold setAddHashed
  refine wpAny_holding ?_
  show wpAny _ _ (setAddHashedIn a (.ref x) (kh P w k) (99999 + 1)) Q E s
  rw [setAddHashedIn_succ]
  refine wpAny_bind (wpAny_setState_of ho hd R.fits (wp_if_neg (by simp [byScan, Value.scannable]) ?_))
  try refine wpAny_bind (wpAny_pure ?_)
  refine wpAny_bind (R.find hx hu true (fun hm r _ => ?_) fun K hm free busy => ?_)
  · exact wpAny_pure (q false s.heap L es ep t (Heap.SameBut.refl a s.heap) R (fun _ => rfl) fun z => absurd hm z)
  obtain ⟨q1, q2, q3, q4, q5, q6, q7, q8, q9⟩ := R.tb.put free busy
  refine wpAny_bind (wpAny_setState_of ho hd R.fits ?_)
  dsimp only
  generalize t.put (way t.mask (kh P w k) K) = pt at q1 q3 q4 q5 q6 q7 q8 q9 ⊢
  obtain ⟨t1, p⟩ := pt
  dsimp only at q1 q3 q4 q5 q6 q7 q8 q9 ⊢
  subst q1
  generalize SetTable.below t.place (way t.mask (kh P w k) K) = p at q2 q3 ⊢
  have done : ∀ t2 : SetTable, TabOk t2 ((hashes P w L).take p ++ kh P w k :: (hashes P w L).drop p) → t2.mask = t.mask → t2.led = t.led → t2.fill = (hashes P w L).length + 1 →
      wpAny (model P w) A (do
        storeSet a (SetTable.insertAt es p (kh P w k, Value.ref x)) t2
        if !false && t2.tooFull then setRelay a (SetTable.grown (es.size + 1))
        return true) Q E s := fun t2 T em el ef => by
    have en1 : (SetTable.insertAt es p (kh P w k, Value.ref x)).toList = ents P w (L.take p ++ (x, k) :: L.drop p) := by
      rw [SetTable.toList_insertAt, R.en]
      simp [ents]
    have hh1 : hashes P w (L.take p ++ (x, k) :: L.drop p) = (hashes P w L).take p ++ kh P w k :: (hashes P w L).drop p := by simp [hashes]
    rw [← hh1] at T
    have pm := put_perm L p (x, k)
    have ln := pm.length_eq
    rw [List.length_cons] at ln
    have un1 : ((L.take p ++ (x, k) :: L.drop p).map (·.2)).Nodup := (pm.map _).nodup_iff.mpr (List.nodup_cons.mpr ⟨hm, R.un⟩)
    have sz := ents_len en1
    rw [ln] at sz
    generalize SetTable.insertAt es p (kh P w k, Value.ref x) = es1 at en1 sz ⊢
    generalize L.take p ++ (x, k) :: L.drop p = L1 at pm ln T un1 en1
    refine wpAny_bind (wpAny_storeSet_of ho hd ?_ (by rw [sz, sizeLine_eq]; omega))
    have sb : Heap.SameBut a s.heap (s.heap.update a (Obj.putSet es1 t2)) := Heap.SameBut.update ..
    have ho1 := store_at (es' := es1) (t' := t2) ho hd
    generalize s.heap.update a (Obj.putSet es1 t2) = h1 at sb ho1 ⊢
    have tu1 : ∀ r ∈ L1, TT P w h1 r.2 r.1 := fun r hr => by
      rcases List.mem_cons.mp (pm.mem_iff.mp hr) with rfl | hr
      · exact tt_but hx ho hd sb
      · exact tt_but (R.tu r hr) ho hd sb
    have ld1 : w.params.followText "set-order" = true ∨ t2.led = true := by rw [el]; exact R.ld
    have hfull : t2.tooFull = decide ((L.length + 1) * 5 ≥ t.mask * 3) := by
      unfold SetTable.tooFull
      rw [ef, em, List.length_map]
    by_cases full : (L.length + 1) * 5 ≥ t.mask * 3
    · have two : (t.mask = 7 ∧ L.length + 1 = 5) ∨ (t.mask = 31 ∧ L.length + 1 = 19) := by
        rcases R.tb.mok with e | e | e <;> rw [e] at full hrm
        · exact .inl ⟨e, by omega⟩
        · exact .inr ⟨e, by omega⟩
        · omega
      obtain ⟨M, m1, m2, m3, m4⟩ := size_after two
      refine wp_if_pos (by rw [hfull]; simpa using full) (wpAny_bind ?_)
      rw [hl]
      have B : SetB P w h1 a L1 es1 (ep + 1) t2 := ⟨⟨_, ho1, ⟨x1, x2, x3⟩, rfl⟩, en1, T, un1, tu1, ld1, by rw [ln, em]; rcases two with ⟨e, e2⟩ | ⟨e, e2⟩ <;> omega, by rw [ln]; exact few⟩
      exact B.grow (s := { s with heap := h1 }) m1 m2 m3 (by rw [ln]; exact m4) fun h2 L2 es2 ep2 t3 sb2 R2 p2 =>
        wpAny_pure (q true h2 L2 es2 ep2 t3 (sb.trans sb2) R2 (fun z => absurd z hm) fun _ => p2.trans pm)
    · refine wp_if_neg (by rw [hfull]; simpa using full) ?_
      try refine wpAny_bind (wpAny_pure ?_)
      exact wpAny_pure (q true h1 L1 es1 (ep + 1) t2 sb ⟨⟨_, ho1, ⟨x1, x2, x3⟩, rfl⟩, en1, T, un1, tu1, ld1, by rw [ln, em]; omega, by rw [ln]; exact few⟩ (fun z => absurd z hm) fun _ => pm)
  have mark : ∀ y : Bool, wpAny (model P w) A (do
        storeSet a (SetTable.insertAt es p (kh P w k, Value.ref x)) (if y then t1 else { t1 with plain := false })
        if !false && (if y then t1 else { t1 with plain := false }).tooFull then setRelay a (SetTable.grown (es.size + 1))
        return true) Q E s := fun y => by
    cases y
    · exact done { t1 with plain := false } ⟨q3.ris, q3.dm, q3.sz, q3.mok, q3.bd, q3.reach⟩ q4 q5 q9
    · exact done t1 q3 q4 q5 q9
  by_cases pl : t1.plain = true
  · first
      | (refine wpAny_bind ?_; refine wp_if_pos pl ?_; exact byv_tt hx fun y => mark y)
      | exact wp_if_pos pl (wpAny_bind (byv_tt hx fun y => mark y))
  · first
      | (refine wpAny_bind ?_; refine wp_if_neg pl ?_; exact wpAny_pure (mark true))
      | exact wp_if_neg pl (wpAny_bind (wpAny_pure (mark true)))
end
end SeT
set_option Elab.async false
set_option linter.all false
set_option maxRecDepth 100000
namespace SeT
open PySem PySem.Spec PyProof.Rows L2
/-- pigeons, for any kind of key -/
theorem few_of {α : Type} [DecidableEq α] : ∀ (l D : List α), l.Nodup → (∀ x ∈ l, x ∈ D) → l.length ≤ D.length := by
  intro l
  induction l with
  | nil => exact fun _ _ _ => Nat.zero_le _
  | cons x l ih =>
    intro D un sub
    have ⟨h1, h2⟩ := List.nodup_cons.mp un
    have hx := sub x List.mem_cons_self
    have := ih (D.erase x) h2 fun y hy => (List.mem_erase_of_ne (by rintro rfl; exact h1 hy)).2 (sub y (List.mem_cons_of_mem _ hy))
    rw [List.length_erase_of_mem hx] at this
    have := List.length_pos_of_mem hx
    simp only [List.length_cons]
    omega
/-- what of the first n rows is in the set -/
def Has (ks : List Row) (n : Nat) (L : List Row) : Prop := (∀ r ∈ L, r ∈ ks.take n) ∧ ∀ r ∈ ks.take n, r.2 ∈ L.map (·.2)
theorem Has.next {ks L L' : List Row} {n : Nat} {r : Row} (g : Has ks n L) (hr : ks[n]? = some r) (h1 : r.2 ∈ L.map (·.2) → L' = L) (h2 : r.2 ∉ L.map (·.2) → L'.Perm (r :: L)) : Has ks (n + 1) L' := by
  have e : ks.take (n + 1) = ks.take n ++ [r] := by rw [List.take_add_one, hr] <;> rfl
  by_cases c : r.2 ∈ L.map (·.2)
  · rw [h1 c]
    refine ⟨fun x hx => by rw [e]; exact List.mem_append_left _ (g.1 x hx), fun x hx => ?_⟩
    rw [e] at hx
    rcases List.mem_append.mp hx with z | z
    · exact g.2 x z
    · rw [List.mem_singleton.mp z]; exact c
  · have pm := h2 c
    refine ⟨fun x hx => ?_, fun x hx => ?_⟩
    · rw [e]
      rcases List.mem_cons.mp (pm.mem_iff.mp hx) with rfl | z
      · exact List.mem_append_right _ List.mem_cons_self
      · exact List.mem_append_left _ (g.1 x z)
    · rw [(pm.map (·.2)).mem_iff]
      rw [e] at hx
      rcases List.mem_append.mp hx with z | z
      · exact List.mem_cons_of_mem _ (g.2 x z)
      · rw [List.mem_singleton.mp z]; exact List.mem_cons_self
/-- all old objects stand -/
def Old (h h' : Heap) : Prop := ∀ b o, h.get? b = some o → h'.get? b = some o
section
variable {P : Program} {w : World} {A : Around} {E : Value → Shared → Prop} {s : Shared}
theorem tt_old {h h' : Heap} {k : List Str} {b : Addr} (x : TT P w h k b) (o : Old h h') : TT P w h' k b := by
  have ⟨o2, its, n, e1, e⟩ := x
  exact ⟨o2, its, n, o b o2 e1, e⟩
theorem SetA.moved {h h' : Heap} {a : Addr} {L : List Row} {es : Array (Int × Value)} {ep : Nat} {t : SetTable} (R : SetA P w h a L es ep t) (ha : ∀ o, h.get? a = some o → h'.get? a = some o) (ht : ∀ r ∈ L, TT P w h' r.2 r.1) :
    SetA P w h' a L es ep t := by
  have ⟨o, ho, e⟩ := R.ob
  exact { R with ob := ⟨o, ha o ho, e⟩, tu := ht }
abbrev setObj (w : World) : Obj := { cls := .type "set", dict := none, data := .set #[] 0 (.fresh 0 0 (!w.params.followText "set-order")) }
theorem SetA.empty {h : Heap} {a : Addr} (ho : h.get? a = some (setObj w)) : SetA P w h a [] #[] 0 (.fresh 0 0 (!w.params.followText "set-order")) := by
  refine ⟨⟨_, ho, ⟨rfl, rfl, rfl⟩, rfl⟩, rfl, ⟨.nil, rfl, rfl, .inl rfl, fun x hx => (nomatch hx), fun i h j hi => by simp [hashes] at hi⟩, .nil, fun r hr => (nomatch hr), ?_, (by show 0 * 5 < 7 * 3; decide), by decide⟩
  show _ ∨ (!w.params.followText "set-order") = true
  cases w.params.followText "set-order" <;> simp
/-- the loop of set.update -/
theorem upd_loop {I : Addr} {fp wr : List Addr} {G : Array GenState → Array GenState → Prop} {n : Nat} {Pv : Nat → Value → Prop} {St : Nat → Shared → Prop} {R : Result → Shared → Prop} (W : WalksS P w A.in1 I fp wr G n Pv St)
    (S : Addr) (Sf : S ∉ fp) (ks : List Row) (D : List (List Str)) (hn : n = ks.length) (hD : D.length ≤ 60) (inD : ∀ r ∈ ks, r.2 ∈ D) (val : ∀ i v, Pv i v → ∃ r, ks[i]? = some r ∧ v = .ref r.1)
    (h0 : Heap) (tu : ∀ r ∈ ks, TT P w h0 r.2 r.1) (S0 : h0.get? S = none) (w0 : ∀ b ∈ wr, h0.get? b = none) (hu : A.in1.units < cLine) (j : Nat) :
    ∀ (i : Nat) (s : Shared), i + j = n → St i s → Old h0 s.heap → (∃ L es ep t, SetA P w s.heap S L es ep t ∧ Has ks i L) →
      (∀ s' L es ep t, Moved (S :: wr) G s s' → SetA P w s'.heap S L es ep t → Has ks n L → Old h0 s'.heap → R (.ok (.ret .none)) s') → codeAny (model P w) A (.builtin "set.update.loop" ⟨[.ref S, .ref I], []⟩) R s := by
  have Sw : S ∉ wr := fun h => Sf (W.sub _ h)
  have sub : ∀ b, b ∈ wr → b ∈ S :: wr := fun b => List.mem_cons_of_mem S
  have stay : ∀ {u v : Shared}, Moved wr G u v → Old h0 u.heap → Old h0 v.heap := fun m k b o e => m.heap b o (fun hb => by rw [w0 b hb] at e; exact nomatch e) (k b o e)
  induction j with
  | zero =>
    rintro i s rfl hst old ⟨L, es, ep, t, hS, g⟩ hR
    refine codeAny_builtin F.entry_set_update_loop ?_
    rw [Around.under_plainId F.plain_set_update_loop]
    show wpAny _ A.in1 (pyNext (.ref I) >>= _) _ _ s
    refine wpAny_bind (W.done s _ _ hst fun s' m => ?_)
    have old' := stay m old
    exact wpAny_pure (hR s' L es ep t (m.mono sub) (hS.moved (fun o e => m.heap S o Sw e) fun r hr => tt_old (tu r (List.mem_of_mem_take (g.1 r hr))) old') g old')
  | succ j ih =>
    rintro i s e hst old ⟨L, es, ep, t, hS, g⟩ hR
    have lt : i < n := by omega
    refine codeAny_builtin F.entry_set_update_loop ?_
    rw [Around.under_plainId F.plain_set_update_loop]
    show wpAny _ A.in1 (pyNext (.ref I) >>= _) _ _ s
    refine wpAny_bind (W.item i s _ _ lt hst fun v s' hP hst' m => ?_)
    obtain ⟨r, hr, rfl⟩ := val i v hP
    have old' := stay m old
    have hm := List.mem_of_getElem? hr
    have hS' : SetA P w s'.heap S L es ep t := hS.moved (fun o e => m.heap S o Sw e) fun r hr => tt_old (tu r (List.mem_of_mem_take (g.1 r hr))) old'
    have hx := tt_old (tu r hm) old'
    have room : L.length + 1 < 64 := by
      have := few_of (L.map (·.2)) D hS'.un fun k hk => by
        obtain ⟨r2, h2, rfl⟩ := List.mem_map.mp hk
        exact inD r2 (List.mem_of_mem_take (g.1 r2 h2))
      rw [List.length_map] at this
      omega
    show wpAny _ A.in1 (holding [Value.ref r.1] (setAdd S (.ref r.1)) >>= _) _ _ s'
    refine wpAny_bind (wpAny_holding ?_)
    unfold setAdd
    refine wpAny_holding (wpAny_bind (wpAny_pyHash_tuple hu hx ?_))
    refine SetA.add (s := { s' with toks := s'.toks + (r.2.length + 1) }) hS' hx hu room fun b h' L' es' ep' t' sb hS2 c1 c2 => ?_
    have old2 : Old h0 h' := fun b o q => (sb.2 b (by rintro rfl; rw [S0] at q; exact nomatch q)).trans (old' b o q)
    refine wpAny_pure ⟨plainId_quiet F.plain_set_update_loop _, ih (i + 1) _ (by omega) (W.frame _ s' _ _ hst' (Nat.le_add_right _ _) fun b hb o q => ?_) old2 ⟨L', es', ep', t', hS2, g.next hr c1 c2⟩ fun u L2 es2 ep2 t2 m2 hS3 g2 old3 => ?_⟩
    · exact (sb.2 b (by rintro rfl; exact Sf hb)).trans q
    · refine hR u L2 es2 ep2 t2 (Moved.trans W.gtrans ((m.mono sub).then_heap (Nat.le_add_right _ _) fun b o hb q => ?_) m2) hS3 g2 old3
      exact (sb.2 b (by rintro rfl; exact hb List.mem_cons_self)).trans q
set_option maxHeartbeats 3200000 in
/-- set(xs), xs a list of tuples of texts -/
theorem call_set_tt {l : Addr} {its : Array Value} (ks : List Row) (D : List (List Str)) {Q : Value → Shared → Prop} (hh : A.handled = none) (hl : s.heap.IsList l its) (hi : its.toList = ks.map fun r => Value.ref r.1)
    (tu : ∀ r ∈ ks, TT P w s.heap r.2 r.1) (hD : D.length ≤ 60) (inD : ∀ r ∈ ks, r.2 ∈ D) (hu : A.units + 3 < cLine)
    (q : ∀ (h' : Heap) (tk : Nat) L es ep t, SetA P w h' s.heap.objs.size L es ep t → Has ks ks.length L → Old s.heap h' → Q (.ref s.heap.objs.size) { s with heap := h', toks := tk }) :
    wpAny (model P w) A (call (.type "set") [.ref l]) Q E s := by
  have hn : its.size = ks.length := by simpa using congrArg List.length hi
  have beyond : ∀ b, s.heap.objs.size ≤ b → s.heap.get? b = none := fun b hb => by
    rcases e : s.heap.get? b with _ | o
    · rfl
    · exact absurd (Heap.lt_size e) (Nat.not_lt.mpr hb)
  have ⟨c, tl, hmro⟩ := F.called_set.mro
  have f1 := F.called_set.made
  have f2 := F.called_set.sub
  have f3 := F.called_set.notType
  have f4 := F.called_set.canCreate
  have f5 := F.typeCall_set_1 (.ref l)
  have wt := weight_type_call_type "set" [.ref l] []
  refine wpAny_call (codeAny_of_tree ?_); show wpAny _ _ (callAny (.type "set") _) _ _ s
  refine wpAny_pure ⟨Code.quiet_builtin _ (by decide +kernel), codeAny_builtin F.entry_type_call ?_⟩; rw [Around.under_plain wt rfl]
  repeat (any_goals (first | assumption | wp_step))
  generalize hS0 : s.heap.objs.size = S at *
  refine codeAny_mono (code_set_led1 (.ref l) (E := E) (Q₁ := fun v u => v = .ref S ∧ u = { s with heap := s.heap.push (setObj w) }) ⟨by rw [hS0], rfl⟩) fun r u hr => ?_
  rcases r with e | fl
  · exact hr
  cases fl with
  | ret v =>
    obtain ⟨rfl, rfl⟩ := hr
    have hS : (s.heap.push (setObj w)).get? S = some (setObj w) := by rw [← hS0]; exact Heap.get?_push_size _ rfl
    have hT : Shared.TypeIs { s with heap := s.heap.push (setObj w) } (.ref S) "set" := ⟨_, hS, rfl⟩
    have f6 := F.called_set.init.lookup
    have f7 := F.called_set.init.bind (.ref S)
    repeat (any_goals (first | assumption | wp_step))
    refine codeAny_mono (codeAny_call_builtin (R := wants (fun r u => r = .none ∧ ∃ h' tk L es ep t, u = { s with heap := h', toks := tk } ∧ SetA P w h' S L es ep t ∧ Has ks ks.length L ∧ Old s.heap h') E)
      F.called_set.init.plain F.entry_set_init (check_set_init_1 hT ?_)) fun r u hr => ?_
    · have ⟨ol, hol, hcl, nl, hdl⟩ := hl
      obtain ⟨ocls, odict, odata, oslots⟩ := ol
      dsimp only at hcl hdl
      subst hcl hdl
      have hol2 : (s.heap.push (setObj w)).get? l = some { cls := .type "list", dict := odict, data := .seq its nl, slots := oslots } := Heap.get?_push_of_some _ hol
      have hl2 : (s.heap.push (setObj w)).IsList l its := ⟨_, hol2, rfl, nl, rfl⟩
      have g1 := F.sub_list_set
      have g2 := F.sub_list_frozenset
      have g3 : (Value.type "list" == Value.type "dict") = false := by decide
      unfold Builtin.«set.__init__» noKeywords Builtin.Frozenset.updateFrom
      generalize hit : pyIter = IT
      wp_walk
      subst hit
      refine wpAny_pyIter_list hl2 (wpAny_bind (wpAny_runValue ?_))
      have lS : l < S := by rw [← hS0]; exact Heap.lt_size hol
      have sz : (s.heap.push (setObj w)).objs.size = S + 1 := by rw [← hS0]; exact Heap.size_push ..
      have lI : l ≠ (s.heap.push (setObj w)).objs.size := by rw [sz]; exact Nat.ne_of_lt (Nat.lt_succ_of_lt lS)
      have up : Old s.heap ((s.heap.push (setObj w)).push { cls := .type "list_iterator", data := .fields #[.ref l, .int 0 0] }) := fun b o e => Heap.get?_push_of_some _ (Heap.get?_push_of_some _ e)
      refine upd_loop (Walks.list (by simp [hh]) _ l lI its).toS S (by
        simp only [List.mem_cons, List.not_mem_nil, or_false, not_or, sz]
        exact ⟨Nat.ne_of_lt (Nat.lt_succ_self _), Nat.ne_of_gt lS⟩) ks D hn hD inD (fun i v e => ?_) s.heap tu (beyond S (Nat.le_refl _))
        (fun b hb => beyond b (by rw [List.mem_singleton.mp hb, sz]; exact Nat.le_succ _)) hu its.size 0 _ (Nat.zero_add _) ⟨⟨_, Heap.get?_push_size _ rfl, rfl, rfl⟩, hl2.push _⟩ up
        (by exact ⟨[], #[], 0, _, SetA.empty (Heap.get?_push_of_some _ hS), fun r hr => (nomatch hr), fun r hr => (nomatch hr)⟩) fun u L es ep t m hS2 g old => ?_
      · have e2 : its.toList[i]? = some v := by simpa using e
        rw [hi, List.getElem?_map] at e2
        rcases e3 : ks[i]? with _ | r
        · rw [e3] at e2; exact nomatch e2
        · rw [e3] at e2
          exact ⟨r, rfl, (Option.some.inj e2).symm⟩
      · obtain ⟨h', gn, d', tk', os'⟩ := u
        obtain rfl : gn = s.gens := m.gens
        obtain rfl : d' = s.drawn := m.drawn
        obtain rfl : os' = s.os := m.os
        rw [hn] at g
        refine wpAny_pure ?_
        show wpAny _ _ (ret Value.none) _ _ _
        exact wpAny_pure ⟨rfl, h', tk', L, es, ep, t, rfl, hS2, g, old⟩
    · rcases r with e | fl
      · exact hr
      cases fl with
      | ret v =>
        obtain ⟨rfl, h', tk, L, es, ep, t, rfl, hS2, g, old⟩ := hr
        repeat (any_goals (first | assumption | wp_step))
        exact q _ _ _ _ _ _ hS2 g old
      | _ => exact hr.elim
  | _ => exact hr.elim
end
end SeT
set_option Elab.async false
set_option linter.all false
set_option maxRecDepth 100000
namespace SeT
open PySem PySem.Spec PyProof.Rows L2
theorem perm_of_map {α β : Type} {f : α → β} {l n : List β} (p : l.Perm n) : ∀ m : List α, n = m.map f → ∃ m' : List α, l = m'.map f ∧ m'.Perm m := by
  induction p with
  | nil => exact fun m e => ⟨m, e, .refl _⟩
  | cons x _ ih =>
    intro m e
    cases m with
    | nil => exact nomatch e
    | cons y m =>
      injection e with e1 e2
      obtain ⟨m', e3, p⟩ := ih m e2
      exact ⟨y :: m', by rw [e3, e1] <;> rfl, p.cons y⟩
  | swap x y l =>
    intro m e
    rcases m with _ | ⟨u, _ | ⟨v, m⟩⟩
    · exact nomatch e
    · exact nomatch e
    · injection e with e1 e2
      injection e2 with e2 e3
      exact ⟨v :: u :: m, by rw [e1, e2, e3] <;> rfl, .swap u v m⟩
  | trans _ _ ih1 ih2 =>
    intro m e
    obtain ⟨m2, e2, p2⟩ := ih2 m e
    obtain ⟨m1, e1, p1⟩ := ih1 m2 e2
    exact ⟨m1, e1, p1.trans p2⟩
section
variable {P : Program} {w : World} {A : Around} {E : Value → Shared → Prop} {s : Shared}
variable {a : Addr} {L : List Row} {es : Array (Int × Value)} {ep : Nat} {t : SetTable}
/-- a walk over the set meets each element once, in some order -/
theorem SetA.walk (R : SetA P w s.heap a L es ep t) {Q : Array (Int × Value) → Shared → Prop} (q : ∀ arr d, arr.toList.Perm (ents P w L) → Q arr { s with drawn := d }) : wpAny (model P w) A (setWalk a) Q E s := by
  have ⟨o, ho, _, hd⟩ := R.ob
  unfold setWalk
  refine wpAny_bind (wpAny_setState_of ho hd R.fits ?_)
  dsimp only
  refine wpAny_bind (wpAny_byText ?_)
  by_cases bt : w.params.followText "set-order" = true
  · refine wp_if_pos bt (wpAny_bind (wpAny_askSetting (wpAny_pure (q _ s.drawn ?_))))
    rw [← R.en]
    exact pick_perm _ _
  · refine wp_if_neg bt ?_
    try refine wpAny_bind (wpAny_pure ?_)
    have led := R.ld.resolve_left bt
    by_cases dr : (!t.plain && decide (es.size > 1)) = true
    · refine wp_if_pos dr (wpAny_bind (drawOrder_at _ _ _ _ (by simp) fun ys d pm => wpAny_pure (q _ d ?_)))
      rw [← R.en]
      simpa using pm
    · refine wp_if_neg dr ?_
      try refine wpAny_bind (wpAny_pure ?_)
      refine wpAny_bind (wpAny_of_eq (a := ()) ?_ (wpAny_pure (q es s.drawn (by rw [R.en]))))
      show (if (!t.led && decide (es.size > 1)) = true then unsupported "set:maker-not-led" else pure ()) = pure ()
      rw [led] <;> rfl
theorem SetA.walkU (R : SetA P w s.heap a L es ep t) (others : List Addr) (f : Option Addr) {Q : Array (Int × Value) → Shared → Prop} (q : ∀ arr d, arr.toList.Perm (ents P w L) → Q arr { s with drawn := d }) :
    wpAny (model P w) A (setWalkUnseen a others f) Q E s := by
  have ⟨o, ho, _, hd⟩ := R.ob
  unfold setWalkUnseen
  refine wpAny_bind (wpAny_setState_of ho hd R.fits ?_)
  dsimp only
  refine wpAny_bind (wpAny_byText ?_)
  by_cases c : (w.params.followText "set-order" || (t.led && t.plain) || decide (es.size ≤ 1)) = true
  · exact wp_if_pos c (R.walk q)
  · refine wp_if_neg c ?_
    try refine wpAny_bind (wpAny_pure ?_)
    have big : 1 < L.length := by
      have := R.len
      simp at c
      omega
    obtain ⟨r, L', rfl⟩ : ∃ r L', L = r :: L' := by
      cases L with
      | nil => exact absurd big (by decide)
      | cons r L' => exact ⟨r, L', rfl⟩
    have ty := (R.tu r List.mem_cons_self).typeIs
    refine wpAny_bind ?_
    unfold setsQuiet
    refine wpAny_bind ?_
    rw [List.forIn_cons]
    refine wpAny_bind ?_
    unfold setEntries
    refine wpAny_bind (wpAny_bind (wpAny_setState_of ho hd R.fits (wpAny_pure ?_)))
    refine wpAny_bind ?_
    rw [← Array.forIn_toList, R.en]
    show wpAny _ _ (forIn ((kh P w r.2, Value.ref r.1) :: ents P w L') _ _) _ _ _
    rw [List.forIn_cons]
    dsimp only
    refine wpAny_bind (wpAny_bind (wpAny_specialOf ty F.slot_tuple_eq.lookup ?_))
    refine wp_if_pos (by decide +kernel) (wpAny_pure ?_)
    dsimp only
    refine wpAny_pure ?_
    dsimp only
    refine wpAny_pure ?_
    dsimp only
    refine wpAny_pure (wpAny_pure ?_)
    refine wp_if_pos (by decide) (R.walk q)
/-- the set, by its object alone -/
def keys (L : List Row) : List (List Str) := L.map (·.2)
theorem SetA.but {b : Addr} {h h' : Heap} (R : SetA P w h a L es ep t) (ne : a ≠ b) {o : Obj} {es' : Array (Int × Value)} {ep' : Nat} {t' : SetTable} (ho : h.get? b = some o) (hd : o.data = .set es' ep' t') (sb : Heap.SameBut b h h') : SetA P w h' a L es ep t :=
  R.moved (fun o e => (sb.2 a ne).trans e) fun r hr => tt_but (R.tu r hr) ho hd sb
/-- the walk of an intersection -/
theorem meet_loop {β : Type} {r : Addr} {La Lw : List Row} {aa aw : Addr} {ea ew : Array (Int × Value)} {pa pw : Nat} {ta tw : SetTable} (Ra : SetA P w s.heap aa La ea pa ta) (Rw : SetA P w s.heap aw Lw ew pw tw) (na : aa ≠ r) (nw : aw ≠ r)
    (hr : SetA P w s.heap r [] #[] 0 (.fresh 0 0 (!w.params.followText "set-order"))) (hu : A.units < cLine) (few : Lw.length ≤ 60) (id : String) {f : Int × Value → β → Sem (ForInStep β)} {b0 : β} {Z : β → Shared → Prop}
    (hf : ∀ (x : Int × Value) (b : β) (Y : ForInStep β → Shared → Prop) (s' : Shared), wpAny (model P w) A (holding [x.2] (do if (← setFind aa x.2 x.1).isSome then let _ ← setAddHashed r x.2 x.1)) (fun _ u => wpAny (model P w) A (Builtin.Frozenset.unchanged id aw pw) (fun _ u => Y (.yield b0) u) E u) E s' →
      wpAny (model P w) A (f x b) Y E s')
    (arr : Array (Int × Value)) (pm : arr.toList.Perm (ents P w Lw))
    (q : ∀ h' L' e' p' t', Heap.SameBut r s.heap h' → SetA P w h' r L' e' p' t' → (∀ k, k ∈ keys L' ↔ k ∈ keys La ∧ k ∈ keys Lw) → Z b0 { s with heap := h' }) : wpAny (model P w) A (forIn arr b0 f) Z E s := by
  obtain ⟨l0, el, pl⟩ := perm_of_map pm Lw rfl
  have ⟨orr, hor, _, hdr⟩ := hr.ob
  rw [← Array.forIn_toList, el]
  refine wpAny_forIn_list _ (fun rest b s' => ∃ l h L' e' p' t', rest = ents P w l ∧ b = b0 ∧ s' = { s with heap := h } ∧ Heap.SameBut r s.heap h ∧ SetA P w h r L' e' p' t' ∧ (∀ x ∈ l, x ∈ Lw) ∧ (keys l).Nodup ∧
    ∀ k, k ∈ keys L' ↔ k ∈ keys La ∧ k ∈ keys Lw ∧ k ∉ keys l) _ ?_ ?_ _ _ ⟨l0, s.heap, [], _, _, _, rfl, rfl, rfl, Heap.SameBut.refl _ _, hr, fun x hx => pl.mem_iff.mp hx, (pl.map _).nodup_iff.mpr Rw.un, fun k => ⟨fun h => (nomatch h), fun ⟨_, h2, h3⟩ => absurd ((pl.map _).mem_iff.mpr h2) h3⟩⟩
  · rintro x rest b s' ⟨l, h, L', e', p', t', e, rfl, rfl, sb, R, sub, un, iff⟩
    cases l with
    | nil => exact nomatch e
    | cons row l =>
      injection e with e1 e2
      subst e1 e2
      have ⟨un1, un2⟩ := List.nodup_cons.mp un
      have inw := sub row List.mem_cons_self
      have Ra' : SetA P w h aa La ea pa ta := Ra.but na hor hdr sb
      have Rw' : SetA P w h aw Lw ew pw tw := Rw.but nw hor hdr sb
      have hx := Rw'.tu row inw
      have lw : ∀ k, k ∈ keys L' → k ∈ keys Lw := fun k hk => ((iff k).mp hk).2.1
      have few' : L'.length + 1 < 64 := by
        have := few_of (keys L') (keys Lw) R.un lw
        simp only [keys, List.length_map] at this
        omega
      have same : ∀ {h2 : Heap}, SetA P w h2 aw Lw ew pw tw → ∀ Z' : Unit → Shared → Prop, Z' () { s with heap := h2 } → wpAny (model P w) A (Builtin.Frozenset.unchanged id aw pw) Z' E { s with heap := h2 } := fun {h2} R2 Z' z => by
        have ⟨o, ho, _, hd⟩ := R2.ob
        unfold Builtin.Frozenset.unchanged
        refine wpAny_bind (wpAny_setEpoch_of (s := { s with heap := h2 }) ho hd (SetA.fits (s := { s with heap := h2 }) R2) (wp_if_neg (by simp) ?_))
        exact wpAny_pure z
      refine hf _ _ _ _ (wpAny_holding (wpAny_bind (SetA.has (s := { s with heap := h }) Ra' hx hu (fun hm v hv => ?_) fun hm => ?_)))
      · refine wp_if_pos hv (wpAny_bind (SetA.add (s := { s with heap := h }) R hx hu few' fun b2 h2 L2 e2 p2 t2 sb2 R2 c1 c2 => wpAny_pure ?_))
        have sb3 := sb.trans sb2
        refine same (Rw.but nw hor hdr sb3) _ ⟨l, h2, L2, e2, p2, t2, rfl, rfl, rfl, sb3, R2, fun y hy => sub y (List.mem_cons_of_mem _ hy), un2, fun k => ?_⟩
        have hnew : row.2 ∉ keys L' := fun z => ((iff _).mp z).2.2 List.mem_cons_self
        have pm2 := (c2 hnew).map (·.2)
        have e1 : k ∈ keys L2 ↔ k = row.2 ∨ k ∈ keys L' := by
          show k ∈ L2.map (·.2) ↔ _
          rw [pm2.mem_iff, List.map_cons, List.mem_cons] <;> rfl
        rw [e1, iff k]
        constructor
        · rintro (rfl | ⟨h1, h2, h3⟩)
          · exact ⟨hm, List.mem_map.mpr ⟨row, inw, rfl⟩, un1⟩
          · exact ⟨h1, h2, fun z => h3 (List.mem_cons_of_mem _ z)⟩
        · rintro ⟨h1, h2, h3⟩
          by_cases c : k = row.2
          · exact .inl c
          · exact .inr ⟨h1, h2, fun z => by rcases List.mem_cons.mp z with z | z; exact c z; exact h3 z⟩
      · refine wp_if_neg (by simp) ?_
        refine wpAny_pure (same Rw' _ ⟨l, h, L', e', p', t', rfl, rfl, rfl, sb, R, fun y hy => sub y (List.mem_cons_of_mem _ hy), un2, fun k => ?_⟩)
        rw [iff k]
        constructor
        · exact fun ⟨h1, h2, h3⟩ => ⟨h1, h2, fun z => h3 (List.mem_cons_of_mem _ z)⟩
        · rintro ⟨h1, h2, h3⟩
          refine ⟨h1, h2, fun z => ?_⟩
          rcases List.mem_cons.mp z with z | z
          · rw [z] at h1; exact hm h1
          · exact h3 z
  · rintro b s' ⟨l, h, L', e', p', t', e, rfl, rfl, sb, R, _, _, iff⟩
    cases l with
    | cons row l => exact nomatch e
    | nil => exact q h L' e' p' t' sb R fun k => ⟨fun hk => let ⟨h1, h2, _⟩ := (iff k).mp hk; ⟨h1, h2⟩, fun ⟨h1, h2⟩ => (iff k).mpr ⟨h1, h2, fun z => nomatch z⟩⟩
/-- s & t, two sets of tuples of texts -/
theorem SetA.meet {b : Addr} {La Lb : List Row} {ea eb : Array (Int × Value)} {pa pb : Nat} {ta tb : SetTable} (Ra : SetA P w s.heap a La ea pa ta) (Rb : SetA P w s.heap b Lb eb pb tb) (ne : b ≠ a) (hu : A.units < cLine) (fa : La.length ≤ 60) (fb : Lb.length ≤ 60)
    (id : String) {Q : Value → Shared → Prop}
    (q : ∀ h' d L' e' p' t', SetA P w h' s.heap.objs.size L' e' p' t' → Old s.heap h' → (∀ k, k ∈ keys L' ↔ k ∈ keys La ∧ k ∈ keys Lb) → Q (.ref s.heap.objs.size) { s with heap := h', drawn := d }) :
    wpAny (model P w) A (Builtin.Frozenset.intersection id a (.ref b)) Q E s := by
  have ⟨oa, hoa, ⟨xa, _, _⟩, hda⟩ := Ra.ob
  have ⟨ob, hob, ⟨xb, _, _⟩, hdb⟩ := Rb.ob
  have tya : s.TypeIs (.ref a) "set" := ⟨oa, hoa, xa⟩
  unfold Builtin.Frozenset.intersection
  refine wp_if_neg (by simpa using ne) ?_
  try refine wpAny_bind (wpAny_pure ?_)
  have tyb : ∀ {u : Shared}, Old s.heap u.heap → u.TypeIs (.ref b) "set" := fun k => ⟨ob, k b ob hob, xb⟩
  unfold Builtin.Frozenset.baseOf
  refine wpAny_bind (wpAny_bind (wpAny_isInstance tya F.sub_set_set (wpAny_pure ?_)))
  refine wpAny_bind ?_
  unfold PySem.newSet
  refine wpAny_bind (wpAny_byText ?_)
  dsimp only
  refine wpAny_newObj_type ?_
  have old : Old s.heap (s.heap.push (setObj w)) := fun b o e => Heap.get?_push_of_some _ e
  have hr : SetA P w (s.heap.push (setObj w)) s.heap.objs.size [] #[] 0 (.fresh 0 0 (!w.params.followText "set-order")) := SetA.empty (Heap.get?_push_size _ rfl)
  have na : a ≠ s.heap.objs.size := Nat.ne_of_lt (Heap.lt_size hoa)
  have nb : b ≠ s.heap.objs.size := Nat.ne_of_lt (Heap.lt_size hob)
  have Ra' : SetA P w (s.heap.push (setObj w)) a La ea pa ta := Ra.moved (fun o e => old a o e) fun r hr => tt_old (Ra.tu r hr) old
  have Rb' : SetA P w (s.heap.push (setObj w)) b Lb eb pb tb := Rb.moved (fun o e => old b o e) fun r hr => tt_old (Rb.tu r hr) old
  have hfree : s.heap.get? s.heap.objs.size = none := by
    rcases e : s.heap.get? s.heap.objs.size with _ | o
    · rfl
    · exact absurd (Heap.lt_size e) (Nat.lt_irrefl _)
  generalize s.heap.objs.size = r at *
  show wpAny _ _ _ _ _ { s with heap := s.heap.push (setObj w) }
  generalize s.heap.push (setObj w) = h0 at *
  unfold Builtin.Frozenset.addrOf
  refine wpAny_bind (wpAny_pure ?_)
  refine wpAny_bind (wpAny_holding ?_)
  unfold Builtin.Frozenset.isAnySet orM
  refine wpAny_bind (wpAny_bind (wpAny_isInstance (tyb (u := { s with heap := h0 }) old) F.sub_set_set (wpAny_pure ?_)))
  refine wp_if_pos rfl ?_
  refine wpAny_bind (wpAny_pure ?_)
  unfold Builtin.Frozenset.sizeOf setEntries
  have ⟨oa2, hoa2, _, hda2⟩ := Ra'.ob
  have ⟨ob2, hob2, _, hdb2⟩ := Rb'.ob
  refine wpAny_bind (wpAny_bind (wpAny_bind (wpAny_setState_of (s := { s with heap := h0 }) hob2 hdb2 (SetA.fits (s := { s with heap := h0 }) Rb') (wpAny_pure (wpAny_pure ?_)))))
  refine wpAny_bind (wpAny_bind (wpAny_bind (wpAny_setState_of (s := { s with heap := h0 }) hoa2 hda2 (SetA.fits (s := { s with heap := h0 }) Ra') (wpAny_pure (wpAny_pure ?_)))))
  have fin : ∀ {aa aw : Addr} {L1 L2 : List Row} {e1 e2 : Array (Int × Value)} {p1 p2 : Nat} {t1 t2 : SetTable}, SetA P w h0 aa L1 e1 p1 t1 → SetA P w h0 aw L2 e2 p2 t2 → aa ≠ r → aw ≠ r → L2.length ≤ 60 →
      (∀ k, k ∈ keys L1 ∧ k ∈ keys L2 ↔ k ∈ keys La ∧ k ∈ keys Lb) → wpAny (model P w) A (do
        let was ← setEpoch aw
        for (h, x) in ← setWalkUnseen aw [aa, r] (some r) do
          holding [x] do
            if (← setFind aa x h).isSome then
              let _ ← setAddHashed r x h
          Builtin.Frozenset.unchanged id aw was) (fun _ u => wpAny (model P w) A (pure (Value.ref r)) Q E u) E { s with heap := h0 } := fun {aa aw L1 L2 e1 e2 p1 p2 t1 t2} R1 R2 n1 n2 few iff => by
    have ⟨o2, ho2, _, hd2⟩ := R2.ob
    refine wpAny_bind (wpAny_setEpoch_of (s := { s with heap := h0 }) ho2 hd2 (SetA.fits (s := { s with heap := h0 }) R2) ?_)
    refine wpAny_bind (SetA.walkU (s := { s with heap := h0 }) R2 _ _ fun arr d pm => ?_)
    refine wpAny_bind (meet_loop (s := { s with heap := h0, drawn := d }) R1 R2 n1 n2 hr hu few id (fun x b Y s' h => ?_) arr pm fun h' L' e' p' t' sb R3 iff3 => ?_)
    · obtain ⟨x1, x2⟩ := x
      dsimp only
      exact wpAny_bind (wpAny_mono h (fun _ u z => wpAny_bind (wpAny_mono z (fun _ _ y => wpAny_pure y) fun _ _ y => y)) fun _ _ y => y)
    · exact wpAny_pure (wpAny_pure (q h' d L' e' p' t' R3 (fun c o e => (sb.2 c (fun z => by rw [z, hfree] at e; exact nomatch e)).trans (old c o e)) fun k => (iff3 k).trans (iff k)))
  by_cases c : eb.size > ea.size
  · rw [if_pos c]
    exact fin Rb' Ra' nb na fa fun k => And.comm
  · rw [if_neg c]
    exact fin Ra' Rb' na nb fb fun k => Iff.rfl
end
end SeT
set_option Elab.async false
set_option linter.all false
set_option maxRecDepth 100000
namespace SeT
open PySem PySem.Spec PyProof.Rows L2
section
variable {P : Program} {w : World} {A : Around} {E : Value → Shared → Prop} {s : Shared} {a b : Addr}
theorem entry_set_and : entryFor table "set.__and__" = some Builtin.«frozenset.__and__» := entryFor_alias (id' := "frozenset.__and__") (by kernel_rfl) rfl (by decide +kernel) (by kernel_rfl)
theorem meet_op {La Lb : List Row} {ea eb : Array (Int × Value)} {pa pb : Nat} {ta tb : SetTable} (Ra : SetA P w s.heap a La ea pa ta) (Rb : SetA P w s.heap b Lb eb pb tb) (ne : b ≠ a) (hu : A.units + 3 < cLine) (fa : La.length ≤ 60) (fb : Lb.length ≤ 60) {Q : Value → Shared → Prop}
    (q : ∀ h' d L' e' p' t', SetA P w h' s.heap.objs.size L' e' p' t' → Old s.heap h' → (∀ k, k ∈ keys L' ↔ k ∈ keys La ∧ k ∈ keys Lb) → Q (.ref s.heap.objs.size) { s with heap := h', drawn := d }) :
    wpAny (model P w) A (binaryOp .BitAnd (.ref a) (.ref b)) Q E s := by
  have ⟨oa, hoa, ⟨xa, _, _⟩, _⟩ := Ra.ob
  have ⟨ob, hob, ⟨xb, _, _⟩, _⟩ := Rb.ob
  have tya : s.TypeIs (.ref a) "set" := ⟨oa, hoa, xa⟩
  have tyb : s.TypeIs (.ref b) "set" := ⟨ob, hob, xb⟩
  refine wpAny_binaryOp_same (op := .BitAnd) (T := "set") tya tyb F.fills_set_and F.slot_set_and (wpAny_call_entry F.slot_set_and tya entry_set_and ?_ (F.args_set_and_2 _ _))
  show wpAny _ _ (Builtin.Frozenset.slot1 "__and__" ⟨[.ref a, .ref b], []⟩ >>= _) _ _ s
  refine wpAny_bind (wpAny_of_eq (a := (Value.ref a, Value.ref b)) rfl ?_)
  dsimp only
  unfold Builtin.Frozenset.isAnySet orM andM
  refine wpAny_bind (wpAny_bind (wpAny_bind (wpAny_isInstance tya F.sub_set_set (wpAny_pure ?_))))
  refine wpAny_bind (wpAny_isInstance tyb F.sub_set_set (wpAny_pure ?_))
  refine wp_if_neg (by decide) ?_
  try refine wpAny_bind (wpAny_pure ?_)
  have hu1 : A.in1.units < cLine := Nat.lt_of_le_of_lt (by show _ ≤ A.units + 3; simp) hu
  refine wpAny_bind (Ra.meet Rb ne hu1 fa fb _ fun h' d L' e' p' t' R old iff => ?_)
  exact wpAny_pure ⟨_, rfl, (fun z => nomatch z), q h' d L' e' p' t' R old iff⟩
end
/-- a set of tuples of texts, the tuples aside -/
def Set0 (P : Program) (w : World) (a : Addr) (L : List Row) (h : Heap) : Prop := ∃ (es : Array (Int × Value)) (ep : Nat) (t : SetTable), (∃ o, h.get? a = some o ∧ o.ExactSet ∧ o.data = .set es ep t) ∧ es.toList = ents P w L ∧ TabOk t (hashes P w L) ∧ (keys L).Nodup ∧
  (w.params.followText "set-order" = true ∨ t.led = true) ∧ L.length * 5 < t.mask * 3 ∧ L.length < 64
def SetO (P : Program) (w : World) (a : Addr) (L : List Row) : HO := .ext (Set0 P w a L)
theorem SetA.zero {P : Program} {w : World} {h : Heap} {a : Addr} {L : List Row} {es : Array (Int × Value)} {ep : Nat} {t : SetTable} (R : SetA P w h a L es ep t) : Set0 P w a L h := ⟨es, ep, t, R.ob, R.en, R.tb, R.un, R.ld, R.rm, R.fw⟩
theorem Set0.all {P : Program} {w : World} {h : Heap} {a : Addr} {L : List Row} (z : Set0 P w a L h) (tu : ∀ r ∈ L, TT P w h r.2 r.1) : ∃ es ep t, SetA P w h a L es ep t :=
  let ⟨es, ep, t, h1, h2, h3, h4, h5, h6, h7⟩ := z
  ⟨es, ep, t, h1, h2, h3, h4, tu, h5, h6, h7⟩
theorem Set0.ok {P : Program} {w : World} {H : Hp} {h : Heap} {a : Addr} {L : List Row} (z : Set0 P w a L h) : ObjOk P w H h a (SetO P w a L) :=
  ⟨z, let ⟨_, _, _, ⟨o, ho, _⟩, _⟩ := z; ⟨o, ho⟩, fun _ _ ⟨es, ep, t, ⟨o, ho, e⟩, q⟩ k => ⟨es, ep, t, ⟨o, k o ho, e⟩, q⟩⟩
theorem items_tt {P : Program} {w : World} : ∀ {k : List Str} {us : List Value}, Vals (k.map V.str) us → ItemsAre (strKind P w) k us
  | [], _, .nil => .nil
  | x :: k, _, .cons r t => by
    obtain ⟨tk, rfl⟩ := r
    exact .cons (by simp [PySem.strKind, Value.isStrOf]) (items_tt t)
theorem refs_tt : ∀ {L : List Row} {us : List Value}, Vals (L.map fun r => V.ref r.1) us → us = L.map fun r => Value.ref r.1
  | [], _, .nil => rfl
  | r :: L, _, .cons e t => by
    cases e
    rw [refs_tt t] <;> rfl
section
variable {X : Cx}
theorem tt_of {pins : List (Addr × Obj)} {σ : L2.St} {H : Hp} {s : Shared} {b : Addr} {k : List Str} (I : Inv X pins σ H s) (h : SqT X.K H b (k.map V.str)) : TT X.prog X.w s.heap k b := by
  obtain ⟨its, r, ⟨o, ho, hc, n, hd⟩, _⟩ := I.tuple h
  exact ⟨o, its.toArray, n, ho, hc, hd, items_tt (by simpa using r)⟩
/-- set(xs), xs a list of tuples of texts: at most 60 different ones -/
def rSetTT (K : PySem.W.Frag) (P : Program) (w : World) : List V → Hp → VK → Prop := fun xs H Q => ∃ (l : Addr) (ks : List Row) (D : List (List Str)), xs = [V.ref l] ∧ SqL K H l (ks.map fun r => V.ref r.1) ∧ (∀ r ∈ ks, SqT K H r.1 (r.2.map V.str)) ∧ D.length ≤ 60 ∧ (∀ r ∈ ks, r.2 ∈ D) ∧
  ∀ a L, H a = none → (∀ r ∈ L, r ∈ ks) → (∀ r ∈ ks, r.2 ∈ keys L) → L.length ≤ 60 → Q (.ref a) (upd H a (SetO P w a L))
theorem cr_setTT (hc : X.calm = true) (hu : X.A.units + 64 < cLine) : CallR X (.type "set") (rSetTT X.K X.prog X.w) := by
  intro pins s σ H xs us Q I r ⟨l, ks, D, e, hl, hk, hD, inD, q⟩
  subst e
  rw [Vals.ref1 r]
  obtain ⟨its, rv, pl, _⟩ := I.list hl
  have hn : H s.heap.objs.size = none := I.hok.fresh (Nat.le_refl _)
  refine call_set_tt (P := X.prog) (w := X.w) ks D (I.ok.hd hc) pl.isList (by simpa using refs_tt rv) (fun r hr => tt_of I (hk r hr)) hD inD (by omega) fun h' tk L es ep t R g old => ?_
  have sub : ∀ r ∈ L, r ∈ ks := fun r hr => List.mem_of_mem_take (g.1 r hr)
  have few : L.length ≤ 60 := by
    have := few_of (keys L) D R.un fun k hk => by
      obtain ⟨r, hr, rfl⟩ := List.mem_map.mp hk
      exact inD r (sub r hr)
    simp only [keys, List.length_map] at this
    omega
  exact ⟨.ref s.heap.objs.size, upd H s.heap.objs.size (SetO X.prog X.w s.heap.objs.size L), I.laid (t' := tk) old (Nat.le_refl _) R.zero.ok, rfl, q _ L hn sub (fun r hr => g.2 r (by rw [List.take_length]; exact hr)) few⟩
/-- s & t -/
def rMeet (K : PySem.W.Frag) (P : Program) (w : World) : V → V → Hp → VK → Prop := fun x y H Q => ∃ (a b : Addr) (La Lb : List Row), x = V.ref a ∧ y = V.ref b ∧ b ≠ a ∧ H a = some (SetO P w a La) ∧ H b = some (SetO P w b Lb) ∧ (∀ r ∈ La, SqT K H r.1 (r.2.map V.str)) ∧ (∀ r ∈ Lb, SqT K H r.1 (r.2.map V.str)) ∧
  La.length ≤ 60 ∧ Lb.length ≤ 60 ∧ ∀ c L, H c = none → (∀ k, k ∈ keys L ↔ k ∈ keys La ∧ k ∈ keys Lb) → Q (.ref c) (upd H c (SetO P w c L))
theorem op_meet (hu : X.A.units + 64 < cLine) : OpR X (binaryOp .BitAnd) (rMeet X.K X.prog X.w) := by
  intro pins s σ H x y v u Q I r1 r2 ⟨a, b, La, Lb, e1, e2, ne, ha, hb, ka, kb, fa, fb, q⟩
  subst e1 e2
  obtain rfl : v = .ref a := r1
  obtain rfl : u = .ref b := r2
  obtain ⟨_, _, _, Ra⟩ := Set0.all (I.hok a _ ha).1 fun r hr => tt_of I (ka r hr)
  obtain ⟨_, _, _, Rb⟩ := Set0.all (I.hok b _ hb).1 fun r hr => tt_of I (kb r hr)
  have hn : H s.heap.objs.size = none := I.hok.fresh (Nat.le_refl _)
  refine meet_op Ra Rb ne (by omega) fa fb fun h' d L' e' p' t' R old iff => ?_
  have J : Inv X pins σ (upd H s.heap.objs.size (SetO X.prog X.w s.heap.objs.size L')) { s with heap := h', gens := s.gens, drawn := d, toks := s.toks } :=
    I.call (ch := []) (Un.laid old (Nat.le_refl _) hn) (I.hok.laid old (Nat.le_refl _) R.zero.ok) I.bare fun _ z => nomatch z
  exact ⟨.ref s.heap.objs.size, _, J, rfl, q _ L' hn iff⟩
/-- len(s) -/
def rLenS (P : Program) (w : World) : List V → Hp → VK → Prop := fun xs H Q => ∃ a L, xs = [V.ref a] ∧ H a = some (SetO P w a L) ∧ Q (.int L.length) H
theorem cr_lenS : CallR X (.builtin "len") (rLenS X.prog X.w) := by
  intro pins s σ H xs us Q I r ⟨a, L, e, ha, q⟩
  subst e
  rw [Vals.ref1 r]
  obtain ⟨es, ep, t, ⟨o, ho, hx, hd⟩, en, tb, un, ld, rm, fw⟩ := (I.hok a _ ha).1
  have hl := ents_len en
  have hf : t.fits es.size = true := fits_of (by rw [hl]; simpa using tb.sz) tb.dm (by rw [hl]; omega)
  refine call_len_set ho hx hd hf (by rw [hl]; omega) ⟨.int L.length, H, I.tok _, ⟨_, by rw [hl]⟩, q⟩
theorem setK (K : PySem.W.Frag) (P : Program) (w : World) (hK : X.K = K) (hP : X.prog = P) (hw : X.w = w) (hc : X.calm = true) (hu : X.A.units + 65 < cLine) : CallR X (.type "set") (rSetTT K P w) := by
  subst hK hP hw
  exact cr_setTT hc (by omega)
theorem meetK (K : PySem.W.Frag) (P : Program) (w : World) (hK : X.K = K) (hP : X.prog = P) (hw : X.w = w) (hu : X.A.units + 65 < cLine) : OpR X (binaryOp .BitAnd) (rMeet K P w) := by
  subst hK hP hw
  exact op_meet (by omega)
theorem lenK (K : PySem.W.Frag) (P : Program) (w : World) (hK : X.K = K) (hP : X.prog = P) (hw : X.w = w) : CallR X (.builtin "len") (rLenS P w) := by
  subst hK hP hw
  exact cr_lenS
theorem notInDK (K : PySem.W.Frag) (hK : X.K = K) (hu : X.A.units + 65 < cLine) : OpR X (compareOp .NotIn) (rNotInD K) := by
  subst hK
  exact op_notInD hu
end
end SeT
set_option Elab.async false
set_option linter.all false
set_option maxRecDepth 100000
set_option maxHeartbeats 4000000
namespace Toy
open PySem L2 NdefX Gm
open Mine hiding same_new
def kP (p : Str × Str) : List Str := [p.1, p.2]
theorem kP_inj {p q : Str × Str} (h : kP p = kP q) : p = q := by
  injection h with h1 h2
  injection h2 with h2 _
  exact Prod.ext h1 h2
theorem rows_dp {K : PySem.W.Frag} {H : Hp} : ∀ {ps : List (Str × Str)} {us : List V}, DpAll K H us (ps.map plD) → ∃ ks : List SeT.Row, us = ks.map (fun r => V.ref r.1) ∧ (∀ r ∈ ks, SqT K H r.1 (r.2.map V.str)) ∧ ks.map (·.2) = ps.map kP
  | [], us, h => ⟨[], dps_nil h, fun r hr => (nomatch hr), rfl⟩
  | p :: ps, us, h => by
    obtain ⟨u, vs, rfl, h1, h2⟩ := dps_cons h
    obtain ⟨ks, rfl, e2, e3⟩ := rows_dp h2
    cases h1 with
    | tup hs ha =>
      obtain ⟨x1, _, rfl, d1, ha⟩ := dps_cons ha
      obtain ⟨x2, _, rfl, d2, ha⟩ := dps_cons ha
      have e0 := dps_nil ha
      subst e0
      rw [dp_s d1, dp_s d2] at hs
      refine ⟨(_, kP p) :: ks, rfl, fun r hr => ?_, by rw [List.map_cons, List.map_cons, e3]⟩
      rcases List.mem_cons.mp hr with rfl | hr
      · exact hs
      · exact e2 r hr
def spDist (K : PySem.W.Frag) (k d : Nat) : Sp := fun vs H Q _ => ∃ (v u : V) (s s' : Stm) (N : List (Str × Str)), vs = [v, u] ∧ Dp K H v s.d ∧ Dp K H u s'.d ∧ stF k d s ∧ stF k d s' ∧ k ≤ 6 ∧ s.tot ≤ 700 ∧ s'.tot ≤ 700 ∧ s.Pl N ∧ s'.Pl N ∧ N.length ≤ 60 ∧
  ∀ (b : Bool) (H' : Hp), Same H H' → (b = true ↔ ∃ p, p ∈ s.tw ∧ (p ∈ s'.tr ∨ p ∈ s'.tw)) → Q (.bl b) H'
theorem pl_tw {N : List (Str × Str)} {s : Stm} (h : s.Pl N) : ∀ p ∈ s.tw, p ∈ N := fun p hp => by
  obtain ⟨x, hx, hp⟩ := List.mem_flatMap.mp hp
  exact (Stm.pl_all h x hx).2 p hp
theorem pl_tr {N : List (Str × Str)} {s : Stm} (h : s.Pl N) : ∀ p ∈ s.all.flatMap Stm.rd, p ∈ N := fun p hp => by
  obtain ⟨x, hx, hp⟩ := List.mem_flatMap.mp hp
  exact (Stm.pl_all h x hx).1 p hp
section
variable {P : Program} {w : World} {K : PySem.W.Frag} {mg : Str → Option Value} {base : Heap} {file : Str}
theorem ok_dist (T : Txt K mg file) (hF : FormsX K w T.a_FORMS) (k d : Nat) : FnOk P w K mg base CX0 (d + k + 8) T.a_disturbs T.fd_disturbs ["statement", "other"] (spDist K k d) := by
  have G_statement_reads : FnOk P w K mg base CX0 (d + k + 6) T.a_statement_reads T.fd_statement_reads ["statement"] (spSR K k d) := ok_sr T hF k d
  have G_statement_writes : FnOk P w K mg base CX0 (d + 3) T.a_statement_writes T.fd_statement_writes ["statement"] (spSW K k d) := ok_sw T hF k d
  refine T.F_disturbs.ok sc_disturbs (fun vs H Q E h => ?_) (fun cdv A outer s0 H vs Q E hr h => ?_)
  · obtain ⟨v, u, s, s', N, rfl, _⟩ := h
    rfl
  obtain ⟨v, u, s, s', N, rfl, dv, du, fs, fs', hk, ts, ts', ps, ps', hN, q⟩ := h
  refine ⟨_, (pss_cons (ps_set (i := 2) sc_disturbs.nd rfl (Or.inl rfl) (pe_lst (StX.pa_star (pe_call G_statement_reads (hr.mono (by omega)) rfl T.g_statement_reads T.k_statement_reads T.b_statement_reads .nil pass0 (pa_cons (pv 1) pa_nil)) (StX.pa_star (pe_call G_statement_writes (hr.mono (by omega)) rfl T.g_statement_writes T.k_statement_writes T.b_statement_writes .nil pass0 (pa_cons (pv 1) pa_nil)) pa_nil))))
    (pss_one (ps_ret (pe_cmpR op_gt (pe_callB (SeT.lenK K P w rfl rfl rfl) (by rfl) T.z_len (by decide +kernel) (pa_cons (pe_op (SeT.meetK K P w rfl rfl rfl (units65 hr)) (pe_callTy (SeT.setK K P w rfl rfl rfl rfl (units65 hr)) (by rfl) T.z_set (by decide +kernel) (pa_cons (pe_call G_statement_writes (hr.mono (by omega)) rfl T.g_statement_writes T.k_statement_writes T.b_statement_writes .nil pass0 (pa_cons (pv 0) pa_nil)) pa_nil)) (pe_callTy (SeT.setK K P w rfl rfl rfl rfl (units65 hr)) (by rfl) T.z_set (by decide +kernel) (pa_cons (pv 2) pa_nil))) pa_nil)) pe_int (nomark _))))), ?_⟩
  refine ⟨_, rfl, u, s', rfl, du, fs', hk, ts', fun L1 us H1 n1 m1 h1 d1 => ?_⟩
  refine ⟨L1, us, rfl, .inr (SqL.of h1), _, rfl, u, s', rfl, dp_mono m1 _ _ du, fs', ts', fun L2 ws H2 n2 m2 h2 d2 => ?_⟩
  have m12 := m1.trans m2
  have dd : DpAll K H2 (us ++ (ws ++ [])) ((s'.all.flatMap Stm.rd ++ s'.tw).map plD) := by
    rw [List.map_append, List.append_nil]
    exact DpAll.app (dp_monoAll m2 _ _ d1) d2
  refine ⟨L2, ws, rfl, .inr (SqL.of h2), ?_, fun L hL => ?_⟩
  · have pw := pow6 hk
    have g1 := rds_len (blF_1 fs')
    unfold Blk.rds at g1
    rw [all_one, tot_1] at g1
    have g2 := mul_bd ts' (show 2 * 2 ^ k + 1 ≤ 129 by omega)
    have g3 := flat_len (f := Stm.wr) (n := 2) (l := s'.all) fun s _ => wr_len s
    rw [Stm.all_len] at g3
    have g4 := DpAll.len d1
    have g5 := DpAll.len d2
    rw [List.length_map] at g4 g5
    unfold Stm.tw at g5
    refine Nat.le_trans (show _ ≤ 200000 from ?_) (by decide)
    simp only [List.length_append, List.length_nil]
    omega
  have m3 := same_new hL (.lst (us ++ (ws ++ [])))
  have m13 := m12.trans m3
  replace dd := dp_monoAll m3 _ _ dd
  have hl : (upd H2 L (.lst (us ++ (ws ++ [])))) L = some (.lst (us ++ (ws ++ []))) := upd_same
  revert m3 m13 dd hl
  generalize upd H2 L (.lst (us ++ (ws ++ []))) = H3
  intro m3 m13 dd hl
  refine ⟨_, rfl, v, s, rfl, dp_mono m13 _ _ dv, fs, ts, fun L4 xs H4 n4 m4 h4 d4 => ?_⟩
  obtain ⟨ks, rfl, hks, eks⟩ := rows_dp d4
  have inN : ∀ (ks : List SeT.Row) (ps : List (Str × Str)), ks.map (·.2) = ps.map kP → (∀ p ∈ ps, p ∈ N) → ∀ r ∈ ks, r.2 ∈ N.map kP := fun ks ps e h r hr => by
    have : r.2 ∈ ps.map kP := by rw [← e]; exact List.mem_map.mpr ⟨r, hr, rfl⟩
    obtain ⟨p, hp, e⟩ := List.mem_map.mp this
    exact List.mem_map.mpr ⟨p, h p hp, e⟩
  refine ⟨L4, ks, N.map kP, rfl, SqL.of h4, hks, by rw [List.length_map]; exact hN, inN ks _ eks (pl_tw ps), fun a La na subA allA fewA => ?_⟩
  have m5 := same_new na (SeT.SetO P w a La)
  replace dd := dp_monoAll (m4.trans m5) _ _ dd
  rw [List.append_nil] at dd
  obtain ⟨ks2, e2, hks2, eks2⟩ := rows_dp dd
  have hl5 := (m4.trans m5) _ _ hl
  rw [List.append_nil, e2] at hl5
  refine ⟨_, rfl, L, ks2, N.map kP, rfl, SqL.of hl5, hks2, by rw [List.length_map]; exact hN, inN ks2 _ eks2 (fun p hp => (List.mem_append.mp hp).elim (pl_tr ps' p) (pl_tw ps' p)), fun b Lb nb subB allB fewB => ?_⟩
  have m6 := same_new nb (SeT.SetO P w b Lb)
  have ne : b ≠ a := fun z => by rw [z, upd_same] at nb; cases nb
  refine ⟨a, b, La, Lb, rfl, rfl, ne, by rw [upd_ne ne.symm, upd_same], upd_same, fun r hr => sqT_mono (m5.trans m6) (hks r (subA r hr)), fun r hr => sqT_mono m6 (hks2 r (subB r hr)), fewA, fewB, fun c Lc nc iff => ?_⟩
  have m7 := same_new nc (SeT.SetO P w c Lc)
  refine ⟨c, Lc, rfl, upd_same, _, _, rfl, rfl, q _ _ (m13.trans (m4.trans (m5.trans (m6.trans m7)))) ?_⟩
  have inA : ∀ k, k ∈ SeT.keys La ↔ k ∈ s.tw.map kP := fun k => by
    rw [← eks]
    constructor
    · intro h
      obtain ⟨r, hr, rfl⟩ := List.mem_map.mp h
      exact List.mem_map.mpr ⟨r, subA r hr, rfl⟩
    · intro h
      obtain ⟨r, hr, rfl⟩ := List.mem_map.mp h
      exact allA r hr
  have inB : ∀ k, k ∈ SeT.keys Lb ↔ k ∈ (s'.all.flatMap Stm.rd ++ s'.tw).map kP := fun k => by
    rw [← eks2]
    constructor
    · intro h
      obtain ⟨r, hr, rfl⟩ := List.mem_map.mp h
      exact List.mem_map.mpr ⟨r, subB r hr, rfl⟩
    · intro h
      obtain ⟨r, hr, rfl⟩ := List.mem_map.mp h
      exact allB r hr
  constructor
  · intro h
    have pos : 0 < Lc.length := by simpa using h
    obtain ⟨r, hr⟩ := List.exists_mem_of_length_pos pos
    obtain ⟨h1, h2⟩ := (iff r.2).mp (List.mem_map.mpr ⟨r, hr, rfl⟩)
    obtain ⟨p, hp, e1⟩ := List.mem_map.mp ((inA _).mp h1)
    obtain ⟨p', hp', e2⟩ := List.mem_map.mp ((inB _).mp h2)
    have e := kP_inj (e2.trans e1.symm)
    subst e
    exact ⟨p', hp, (List.mem_append.mp hp').imp (Stm.tr_mem p' s').mpr id⟩
  · rintro ⟨p, h1, h2⟩
    have h : kP p ∈ SeT.keys Lc := (iff _).mpr ⟨(inA _).mpr (List.mem_map.mpr ⟨p, h1, rfl⟩), (inB _).mpr (List.mem_map.mpr ⟨p, List.mem_append.mpr (h2.imp (Stm.tr_mem p s').mp id), rfl⟩)⟩
    obtain ⟨r, hr, _⟩ := List.mem_map.mp h
    have pos := List.length_pos_of_mem hr
    simpa using pos
end
end Toy
set_option Elab.async false
set_option linter.all false
set_option maxRecDepth 100000
set_option maxHeartbeats 4000000
namespace Toy
open PySem L2 NdefX Gm
open Mine hiding same_new
def spMade (K : PySem.W.Frag) (C : Addr) : Sp := fun vs H Q _ => ∃ (v : V) (G : Ga), vs = [v] ∧ Dp K H v G.d ∧ ∀ (g : Addr) (H' : Hp), Same H H' → GmD K C H' g G → Q (.ref g) H'
def spParts (K : PySem.W.Frag) (C : Addr) : Sp := fun vs H Q _ => ∃ (g : Addr) (G : Ga), vs = [.ref g] ∧ GmD K C H g G ∧ ∀ (v : V) (H' : Hp), Same H H' → Dp K H' v G.d → Q v H'
def spUses (K : PySem.W.Frag) (k : Nat) : Sp := fun vs H Q _ => ∃ (v : V) (e : Ex), vs = [v] ∧ Dp K H v e.d ∧ exF k e ∧ k ≤ 12 ∧ ∀ (L : Addr) (H' : Hp), H L = none → Same H H' → H' L = some (.lst ((e.reads.map usT).map V.str)) → Q (.ref L) H'
def spWithB (K : PySem.W.Frag) : Sp := fun vs H Q _ => ∃ (v bv nv : V) (n : Str) (G : Ga) (b : Blk) (locs : List Str), vs = [v, .str n, bv, nv] ∧ Dp K H v G.d ∧ Dp K H bv b.d ∧ Dp K H nv (strD locs) ∧ G.procs.length ≤ 1000 ∧ ∀ (u : V) (H' : Hp), Same H H' → Dp K H' u (G.setB n locs b).d → Q u H'
theorem ga_inv {K : PySem.W.Frag} {H : Hp} {v : V} {G : Ga} (h : Dp K H v G.d) : ∃ (a : Addr) (u1 u2 u3 : V) (pa : Addr) (ps : List V), v = .ref a ∧ SqT K H a [u1, u2, u3, .ref pa] ∧ Dp K H u1 (trips G.vars) ∧ Dp K H u2 (trips G.tabs) ∧ Dp K H u3 (trips G.lots) ∧ SqT K H pa ps ∧ DpAll K H ps (G.procs.map Pr.d) := by
  obtain ⟨a, u1, u2, u3, u4, rfl, ha, d1, d2, d3, d4⟩ := four_inv h
  obtain ⟨pa, ps, rfl, hp, dp⟩ := dp_inv d4
  exact ⟨a, u1, u2, u3, pa, ps, rfl, ha, d1, d2, d3, hp, dp⟩
section
variable {P : Program} {w : World} {K : PySem.W.Frag} {mg : Str → Option Value} {base : Heap} {file : Str}
theorem ok_made (T : Txt K mg file) : FnOk P w K mg base CX0 3 T.a_law_made T.fd_law_made ["game"] (spMade K T.C_Game) := by
  have G_Game_init : FnOk P w K mg base CX0 1 T.a_Game_init T.fd_Game_init ["self", "variables", "tables", "lots", "procs"] (spGInit T.C_Game) := ok_ginit T
  refine T.F_law_made.ok sc_law_made (fun vs H Q E h => ?_) (fun cdv A outer s H vs Q E hr h => ?_)
  · obtain ⟨v, G, rfl, _⟩ := h
    rfl
  obtain ⟨v, G, rfl, dv, q⟩ := h
  obtain ⟨a, u1, u2, u3, u4, rfl, ha, d1, d2, d3, d4⟩ := four_inv dv
  refine ⟨_, (pss_one (ps_ret (pe_make T.mk_Game G_Game_init (hr.mono (by decide)) rfl T.g_Game T.b_Game_init .nil pass0 (pa_cons (pe_ix ix_tup (pv 0) pe_int (fun _ _ => rfl)) (pa_cons (pe_ix ix_tup (pv 0) pe_int (fun _ _ => rfl)) (pa_cons (pe_ix ix_tup (pv 0) pe_int (fun _ _ => rfl)) (pa_cons (pe_ix ix_tup (pv 0) pe_int (fun _ _ => rfl)) pa_nil))))))), ?_⟩
  refine ⟨_, rfl, a, _, 0, _, rfl, rfl, ha, rfl, _, rfl, a, _, 1, _, rfl, rfl, ha, rfl, _, rfl, a, _, 2, _, rfl, rfl, ha, rfl, _, rfl, a, _, 3, _, rfl, rfl, ha, rfl, fun g dx ng nd ne => ?_⟩
  refine ⟨g, dx, u1, u2, u3, u4, rfl, upd_same, fun H1 e1 hk => ⟨rfl, ?_⟩⟩
  have m : Same H H1 := fun b o e => hk b o (same_make ng nd b o e) (ne_of_none e ng)
  exact q g H1 m ⟨dx, u1, u2, u3, u4, e1, dp_mono m _ _ d1, dp_mono m _ _ d2, dp_mono m _ _ d3, dp_mono m _ _ d4⟩
theorem ok_parts (T : Txt K mg file) : FnOk P w K mg base CX0 1 T.a_law_parts T.fd_law_parts ["game"] (spParts K T.C_Game) := by
  refine T.F_law_parts.ok sc_law_parts (fun vs H Q E h => ?_) (fun cdv A outer s H vs Q E hr h => ?_)
  · obtain ⟨g, G, rfl, _⟩ := h
    rfl
  obtain ⟨g, G, rfl, ⟨dx, a, b, c, d, hg, d1, d2, d3, d4⟩, q⟩ := h
  refine ⟨_, (pss_one (ps_ret (pe_tup (pa_cons (pe_fld (pv 0) rfl) (pa_cons (pe_fld (pv 0) rfl) (pa_cons (pe_fld (pv 0) rfl) (pa_cons (pe_fld (pv 0) rfl) pa_nil))))))), ?_⟩
  refine ⟨_, rfl, g, _, dx, _, _, rfl, hg, T.cl_Game, T.na_Game_variables, gf_variables _ _ _ _, ?_⟩
  refine ⟨_, rfl, g, _, dx, _, _, rfl, hg, T.cl_Game, T.na_Game_tables, gf_tables _ _ _ _, ?_⟩
  refine ⟨_, rfl, g, _, dx, _, _, rfl, hg, T.cl_Game, T.na_Game_lots, gf_lots _ _ _ _, ?_⟩
  refine ⟨_, rfl, g, _, dx, _, _, rfl, hg, T.cl_Game, T.na_Game_procs, gf_procs _ _ _ _, ?_⟩
  refine ⟨by show 4 ≤ sizeLine; decide, fun t ht => ?_⟩
  exact q _ _ (same_new ht _) (dp_tup ht (.cons d1 (.cons d2 (.cons d3 (.cons d4 .nil)))))
theorem ok_uses (T : Txt K mg file) : ∀ k : Nat, FnOk P w K mg base CX0 (k + 1) T.a_law_uses T.fd_law_uses ["expression"] (spUses K k)
  | 0 => by
    refine T.F_law_uses.ok sc_law_uses (fun vs H Q E h => ?_) (fun cdv A outer s H vs Q E hr h => ?_)
    · obtain ⟨v, e, rfl, _⟩ := h
      rfl
    · obtain ⟨v, e, rfl, _, z, _⟩ := h
      exact z.elim
  | k + 1 => by
    have G_law_uses : FnOk P w K mg base CX0 (k + 1) T.a_law_uses T.fd_law_uses ["expression"] (spUses K k) := ok_uses T k
    refine T.F_law_uses.ok sc_law_uses (fun vs H Q E h => ?_) (fun cdv A outer s H vs Q E hr h => ?_)
    · obtain ⟨v, e, rfl, _⟩ := h
      rfl
    obtain ⟨v, e, rfl, de, ex, hk, q⟩ := h
    refine ⟨_, (pss_cons (ps_set (i := 1) sc_law_uses.nd rfl (Or.inl rfl) (pe_ix ix_tup (pv 0) pe_int (fun _ _ => rfl)))
    (pss_cons (ps_if (pt_cmpR op_eq (pv 1) pe_str (nomark _))
      (pss_one (ps_ret (pe_lst pa_nil)))
      pss_nil)
    (pss_cons (ps_if (pt_cmpR op_in_seq (pv 1) (pe_tup (pa_cons pe_str (pa_cons pe_str pa_nil))) rfl)
      (pss_one (ps_ret (pe_lst (pa_cons (pe_op op_add_str (pe_op op_add_str (pv 1) pe_str) (pe_ix ix_tup (pv 0) pe_int (fun _ _ => rfl))) pa_nil))))
      pss_nil)
    (pss_cons (ps_if (pt_cmpR op_in_seq (pv 1) (pe_tup (pa_cons pe_str (pa_cons pe_str pa_nil))) rfl)
      (pss_one (ps_ret (pe_op op_cat (pe_lst (pa_cons (pe_op op_add_str pe_str (pe_ix ix_tup (pv 0) pe_int (fun _ _ => rfl))) pa_nil)) (pe_call G_law_uses (hr.mono (by omega)) rfl T.g_law_uses T.k_law_uses T.b_law_uses .nil pass0 (pa_cons (pe_ix ix_tup (pv 0) pe_int (fun _ _ => rfl)) pa_nil)))))
      pss_nil)
    (pss_one (ps_ret (pe_op op_cat (pe_call G_law_uses (hr.mono (by omega)) rfl T.g_law_uses T.k_law_uses T.b_law_uses .nil pass0 (pa_cons (pe_ix ix_tup (pv 0) pe_int (fun _ _ => rfl)) pa_nil)) (pe_call G_law_uses (hr.mono (by omega)) rfl T.g_law_uses T.k_law_uses T.b_law_uses .nil pass0 (pa_cons (pe_ix ix_tup (pv 0) pe_int (fun _ _ => rfl)) pa_nil))))))))), ?_⟩
    have one : (1 : Nat) ≤ sizeLine := by decide
    have two : (2 : Nat) ≤ sizeLine := by decide
    have big : ∀ n : Nat, n ≤ 10000 → n ≤ sizeLine := fun n h => Nat.le_trans h (by decide)
    have hi : ∀ x : Str, inV (.str x) [.str "local", .str "variable"] = decide (x ∈ (["local", "variable"] : List Str)) := fun x => Pz.inV_strs x ["local", "variable"]
    have hj : ∀ x : Str, inV (.str x) [.str "has", .str "cell"] = decide (x ∈ (["has", "cell"] : List Str)) := fun x => Pz.inV_strs x ["has", "cell"]
    cases e with
    | num n =>
      obtain ⟨a, rfl, ha⟩ := num_inv de
      refine ⟨_, rfl, a, _, 0, _, rfl, rfl, ha, atI_nat (j := 0) rfl, ?_⟩
      refine ⟨_, rfl, rfl, _, rfl, iteT2 (decide_eq_true rfl) ?_⟩
      exact ⟨by show 0 ≤ sizeLine; decide, fun L hL => q L _ hL (same_new hL _) upd_same⟩
    | loc x =>
      obtain ⟨a, rfl, ha⟩ := loc_inv de
      refine ⟨_, rfl, a, _, 0, _, rfl, rfl, ha, atI_nat (j := 0) rfl, ?_⟩
      refine ⟨_, rfl, rfl, _, rfl, iteF2 (decide_eq_false fun z => absurd (V.str.inj z) (by decide +kernel)) ?_⟩
      refine ⟨_, rfl, two, fun t1 ht1 => ?_⟩
      have m1 := same_new ht1 (.tup [V.str "local", V.str "variable"])
      refine ⟨_, _, rfl, .inr (SqT.of upd_same), rfl, by decide +kernel, _, rfl, ?_⟩
      rw [if_neg Bool.false_ne_true, hi]
      refine iteT2 (by decide +kernel) ?_
      have lx : x.length ≤ 100 := nm_len ex
      refine ⟨_, rfl, _, _, rfl, rfl, big _ (by show ("local" : Str).length + (" " : Str).length ≤ 10000; decide +kernel), _, rfl, a, _, 1, _, rfl, rfl, sqT_mono m1 ha, atI_nat (j := 1) rfl, _, _, rfl, rfl, big _ ?_, one, fun L hL => ?_⟩
      · have : ((("local" : Str) ++ " ") : Str).length ≤ 100 := by decide +kernel
        omega
      · exact q L _ (m1.free hL) (m1.trans (same_new hL _)) upd_same
    | var x =>
      obtain ⟨a, rfl, ha⟩ := var_inv de
      refine ⟨_, rfl, a, _, 0, _, rfl, rfl, ha, atI_nat (j := 0) rfl, ?_⟩
      refine ⟨_, rfl, rfl, _, rfl, iteF2 (decide_eq_false fun z => absurd (V.str.inj z) (by decide +kernel)) ?_⟩
      refine ⟨_, rfl, two, fun t1 ht1 => ?_⟩
      have m1 := same_new ht1 (.tup [V.str "local", V.str "variable"])
      refine ⟨_, _, rfl, .inr (SqT.of upd_same), rfl, by decide +kernel, _, rfl, ?_⟩
      rw [if_neg Bool.false_ne_true, hi]
      refine iteT2 (by decide +kernel) ?_
      have lx : x.length ≤ 100 := nm_len ex
      refine ⟨_, rfl, _, _, rfl, rfl, big _ (by show ("variable" : Str).length + (" " : Str).length ≤ 10000; decide +kernel), _, rfl, a, _, 1, _, rfl, rfl, sqT_mono m1 ha, atI_nat (j := 1) rfl, _, _, rfl, rfl, big _ ?_, one, fun L hL => ?_⟩
      · have : ((("variable" : Str) ++ " ") : Str).length ≤ 100 := by decide +kernel
        omega
      · exact q L _ (m1.free hL) (m1.trans (same_new hL _)) upd_same
    | has tn x =>
      obtain ⟨a, u, rfl, ha, du⟩ := has_inv de
      refine ⟨_, rfl, a, _, 0, _, rfl, rfl, ha, atI_nat (j := 0) rfl, ?_⟩
      refine ⟨_, rfl, rfl, _, rfl, iteF2 (decide_eq_false fun z => absurd (V.str.inj z) (by decide +kernel)) ?_⟩
      refine ⟨_, rfl, two, fun t1 ht1 => ?_⟩
      have m1 := same_new ht1 (.tup [V.str "local", V.str "variable"])
      refine ⟨_, _, rfl, .inr (SqT.of upd_same), rfl, by decide +kernel, _, rfl, ?_⟩
      rw [if_neg Bool.false_ne_true, hi]
      refine iteF2 (by decide +kernel) ?_
      refine ⟨_, rfl, two, fun t2 ht2 => ?_⟩
      have m2 := m1.trans (same_new ht2 (.tup [V.str "has", V.str "cell"]))
      refine ⟨_, _, rfl, .inr (SqT.of upd_same), rfl, by decide +kernel, _, rfl, ?_⟩
      rw [if_neg Bool.false_ne_true, hj]
      refine iteT2 (by decide +kernel) ?_
      have lx : tn.length ≤ 100 := nm_len ex.1
      refine ⟨_, rfl, a, _, 1, _, rfl, rfl, sqT_mono m2 ha, atI_nat (j := 1) rfl, _, _, rfl, rfl, big _ ?_, one, fun L hL => ?_⟩
      · have : ("table " : Str).length ≤ 100 := by decide +kernel
        omega
      have m3 := m2.trans (same_new hL (.lst [V.str ("table " ++ tn)]))
      refine ⟨_, rfl, a, _, 2, _, rfl, rfl, sqT_mono m3 ha, atI_nat (j := 2) rfl, u, x, rfl, dp_mono m3 _ _ du, ex.2, by omega, fun L2 H2 nL2 m4 hL2 => ?_⟩
      refine ⟨L, L2, _, _, rfl, rfl, m4 _ _ upd_same, hL2, big _ ?_, fun p hp => ?_⟩
      · have := reads_len ex.2 (by omega)
        simp only [List.length_map, List.length_singleton]
        omega
      have m5 := m3.trans m4
      refine q p _ (m5.free hp) (m5.trans (same_new hp _)) ?_
      rw [upd_same, reads_has, List.map_cons, List.map_cons, show usT (("table" : Str), tn) = "table " ++ tn from by unfold usT; dsimp only; rw [show ("table" : Str) ++ " " = "table " from by decide +kernel]]
      rfl
    | cell tn x =>
      obtain ⟨a, u, rfl, ha, du⟩ := cell_inv de
      refine ⟨_, rfl, a, _, 0, _, rfl, rfl, ha, atI_nat (j := 0) rfl, ?_⟩
      refine ⟨_, rfl, rfl, _, rfl, iteF2 (decide_eq_false fun z => absurd (V.str.inj z) (by decide +kernel)) ?_⟩
      refine ⟨_, rfl, two, fun t1 ht1 => ?_⟩
      have m1 := same_new ht1 (.tup [V.str "local", V.str "variable"])
      refine ⟨_, _, rfl, .inr (SqT.of upd_same), rfl, by decide +kernel, _, rfl, ?_⟩
      rw [if_neg Bool.false_ne_true, hi]
      refine iteF2 (by decide +kernel) ?_
      refine ⟨_, rfl, two, fun t2 ht2 => ?_⟩
      have m2 := m1.trans (same_new ht2 (.tup [V.str "has", V.str "cell"]))
      refine ⟨_, _, rfl, .inr (SqT.of upd_same), rfl, by decide +kernel, _, rfl, ?_⟩
      rw [if_neg Bool.false_ne_true, hj]
      refine iteT2 (by decide +kernel) ?_
      have lx : tn.length ≤ 100 := nm_len ex.1
      refine ⟨_, rfl, a, _, 1, _, rfl, rfl, sqT_mono m2 ha, atI_nat (j := 1) rfl, _, _, rfl, rfl, big _ ?_, one, fun L hL => ?_⟩
      · have : ("table " : Str).length ≤ 100 := by decide +kernel
        omega
      have m3 := m2.trans (same_new hL (.lst [V.str ("table " ++ tn)]))
      refine ⟨_, rfl, a, _, 2, _, rfl, rfl, sqT_mono m3 ha, atI_nat (j := 2) rfl, u, x, rfl, dp_mono m3 _ _ du, ex.2, by omega, fun L2 H2 nL2 m4 hL2 => ?_⟩
      refine ⟨L, L2, _, _, rfl, rfl, m4 _ _ upd_same, hL2, big _ ?_, fun p hp => ?_⟩
      · have := reads_len ex.2 (by omega)
        simp only [List.length_map, List.length_singleton]
        omega
      have m5 := m3.trans m4
      refine q p _ (m5.free hp) (m5.trans (same_new hp _)) ?_
      rw [upd_same, reads_cell, List.map_cons, List.map_cons, show usT (("table" : Str), tn) = "table " ++ tn from by unfold usT; dsimp only; rw [show ("table" : Str) ++ " " = "table " from by decide +kernel]]
      rfl
    | op o x y =>
      obtain ⟨a, u, z, rfl, ha, du, dz⟩ := op_inv de
      refine ⟨_, rfl, a, _, 0, _, rfl, rfl, ha, atI_nat (j := 0) rfl, ?_⟩
      have oo : o ∈ ops := ex.1
      have on : o ≠ "number" ∧ o ∉ (["local", "variable"] : List Str) ∧ o ∉ (["has", "cell"] : List Str) := (by decide +kernel : ∀ o ∈ ops, o ≠ "number" ∧ o ∉ (["local", "variable"] : List Str) ∧ o ∉ (["has", "cell"] : List Str)) o oo
      refine ⟨_, rfl, rfl, _, rfl, iteF2 (decide_eq_false fun z => on.1 (V.str.inj z)) ?_⟩
      refine ⟨_, rfl, two, fun t1 ht1 => ?_⟩
      have m1 := same_new ht1 (.tup [V.str "local", V.str "variable"])
      refine ⟨_, _, rfl, .inr (SqT.of upd_same), rfl, by decide +kernel, _, rfl, ?_⟩
      rw [if_neg Bool.false_ne_true, hi]
      refine iteF2 (decide_eq_false on.2.1) ?_
      refine ⟨_, rfl, two, fun t2 ht2 => ?_⟩
      have m2 := m1.trans (same_new ht2 (.tup [V.str "has", V.str "cell"]))
      refine ⟨_, _, rfl, .inr (SqT.of upd_same), rfl, by decide +kernel, _, rfl, ?_⟩
      rw [if_neg Bool.false_ne_true, hj]
      refine iteF2 (decide_eq_false on.2.2) ?_
      refine ⟨_, rfl, a, _, 1, _, rfl, rfl, sqT_mono m2 ha, atI_nat (j := 1) rfl, u, x, rfl, dp_mono m2 _ _ du, ex.2.1, by omega, fun L1 H1 nL1 m3 hL1 => ?_⟩
      have m23 := m2.trans m3
      refine ⟨_, rfl, a, _, 2, _, rfl, rfl, sqT_mono m23 ha, atI_nat (j := 2) rfl, z, y, rfl, dp_mono m23 _ _ dz, ex.2.2, by omega, fun L2 H2 nL2 m4 hL2 => ?_⟩
      refine ⟨L1, L2, _, _, rfl, rfl, m4 _ _ hL1, hL2, big _ ?_, fun p hp => ?_⟩
      · have := reads_len ex.2.1 (by omega)
        have := reads_len ex.2.2 (by omega)
        simp only [List.length_map]
        omega
      have m5 := m23.trans m4
      refine q p _ (m5.free hp) (m5.trans (same_new hp _)) ?_
      rw [upd_same, reads_op, List.map_append, List.map_append]
theorem ok_withB (T : Txt K mg file) : FnOk P w K mg base CX0 1 T.a_law_with T.fd_law_with ["game", "name", "block", "names"] (spWithB K) := by
  refine T.F_law_with.ok sc_law_with (fun vs H Q E h => ?_) (fun cdv A outer s H vs Q E hr h => ?_)
  · obtain ⟨v, bv, nv, n, G, b, locs, rfl, _⟩ := h
    rfl
  obtain ⟨v, bv, nv, n, G, b, locs, rfl, dv, db, dn, hl, q⟩ := h
  obtain ⟨a, u1, u2, u3, pa, ps, rfl, ha, d1, d2, d3, hpa, dps⟩ := ga_inv dv
  have lx : ps.length = G.procs.length := (DpAll.len dps).trans (List.length_map _)
  refine ⟨_, (pss_cons (ps_set (i := 4) sc_law_with.nd rfl (Or.inl rfl) (pe_lst pa_nil))
    (pss_cons (ps_for PassesOwn.never rfl (pi_tup (pe_ix ix_tup (pv 0) pe_int (fun _ _ => rfl))) (pg_name (i := 5) sc_law_with.nd rfl (Or.inl rfl))
      (pss_cons (ps_if (pt_cmpR op_eq (pe_ix ix_tup (pv 5) pe_int (fun _ _ => rfl)) (pv 1) (nomark _))
      (pss_one (ps_set (i := 5) sc_law_with.nd rfl (Or.inl rfl) (pe_op (CatB.op_catB K rfl) (pe_slice (slTB K rfl) (pv 5) po_none (po_some pe_int)) (pe_tup (pa_cons (pv 3) (pa_cons (pv 2) (pa_cons (pe_ix ix_tup (pv 5) pe_int (fun _ _ => rfl)) pa_nil)))))))
      pss_nil)
    (pss_one (ps_expr (pe_bm PySem.F.plainAttrs_list PySem.F.slot_list_append PySem.F.type_list_append mt_append (pv 4) (pa_cons (pv 5) pa_nil))))))
    (pss_one (ps_ret (pe_tup (pa_cons (pe_ix ix_tup (pv 0) pe_int (fun _ _ => rfl)) (pa_cons (pe_ix ix_tup (pv 0) pe_int (fun _ _ => rfl)) (pa_cons (pe_ix ix_tup (pv 0) pe_int (fun _ _ => rfl)) (pa_cons (pe_callTy call_tuple_of (by rfl) T.z_tuple (by decide +kernel) (pa_cons (pv 4) pa_nil)) pa_nil))))))))), ?_⟩
  refine ⟨by show 0 ≤ sizeLine; decide, fun L hL => ?_⟩
  have m0 := same_new hL (.lst [])
  refine ⟨_, rfl, a, _, 3, _, rfl, rfl, sqT_mono m0 ha, atI_nat (j := 3) rfl, pa, rfl, ⟨_, sqT_mono m0 hpa⟩, ?_⟩
  refine for_tup (K := K) (a := pa) (xs := ps) (fun i σ H' => ∃ (vs : List V) (y : Option V), σ = [some (.ref a), some (.str n), some bv, some nv, some (.ref L), y] ∧ Acc K H H' L vs (((G.setB n locs b).procs.take i).map Pr.d)) ⟨[], none, rfl, Acc.start hL⟩ (fun i σ H' _ ⟨_, _, _, ac⟩ => sqT_mono ac.s hpa) ?_ ?_
  · rintro i x σ H' hx ⟨vs, y, rfl, ac⟩
    have hi := (List.getElem?_eq_some_iff.mp hx).1
    obtain ⟨r, er⟩ : ∃ r, G.procs[i]? = some r := ⟨G.procs[i]'(lx ▸ hi), List.getElem?_eq_getElem _⟩
    obtain ⟨x', ex, dr⟩ := DpAll.get dps (show (G.procs.map Pr.d)[i]? = some r.d by rw [List.getElem?_map, er]; rfl)
    rw [hx] at ex
    cases ex
    have dr0 := dr
    obtain ⟨ra, rla, rba, rr, rbs, rfl, hra, _, _, _, drr⟩ := pr_inv dr
    have hra' := sqT_mono ac.s hra
    have hlen : vs.length < sizeLine := by
      have := ac.len
      rw [List.length_map, List.length_take] at this
      exact Nat.lt_of_le_of_lt (show vs.length ≤ 1000 by omega) (by decide)
    have ep : (G.setB n locs b).procs[i]? = some (if r.name = n then { r with locs := locs, block := b } else r) := by
      show (G.procs.map _)[i]? = _
      rw [List.getElem?_map, er]
      rfl
    refine ⟨_, rfl, ra, _, 0, _, rfl, rfl, hra', atI_nat (j := 0) rfl, _, rfl, rfl, _, rfl, ite2 (fun z => ?_) (fun z => ?_)⟩
    · have z' : r.name = n := V.str.inj (of_decide_eq_true z)
      rw [if_pos z'] at ep
      refine ⟨_, rfl, _, rfl, ra, _, rfl, hra', fun c1 H1 m1 hc1 => ?_⟩
      rw [show (3 : Int) = ((3 : Nat) : Int) from rfl, cut_take] at hc1
      refine ⟨_, rfl, _, rfl, _, rfl, ra, _, 5, _, rfl, rfl, sqT_mono m1 hra', atI_nat (j := 5) rfl, by show 3 ≤ sizeLine; decide, fun t2 ht2 => ?_⟩
      have m2 := same_new ht2 (.tup [nv, bv, rr])
      refine ⟨c1, t2, _, _, rfl, rfl, sqT_mono m2 hc1, SqT.of upd_same, by show 3 + 3 ≤ sizeLine; decide, fun pn H3 m3 hpn => ?_⟩
      have m13 := m1.trans (m2.trans m3)
      have ac3 := ac.grow m13
      have dnew : Dp K H3 (.ref pn) ({ r with locs := locs, block := b } : Pr).d := by
        refine .tup hpn ?_
        exact .cons (.str _) (.cons (.int _) (.cons (.int _) (.cons (dp_mono ac3.s _ _ dn) (.cons (dp_mono ac3.s _ _ db) (.cons (dp_mono ac3.s _ _ drr) .nil)))))
      refine ⟨_, rfl, .inl ⟨rfl, _, SqL.of ac3.l⟩, _, rfl, L, vs, _, rfl, rfl, ac3.l, hlen, vs ++ [.ref pn], _, rfl, ?_⟩
      rw [take_more ep, List.map_append]
      exact ac3.add dnew (Pr.nol _)
    · have z' : ¬ r.name = n := fun y => z (decide_eq_true (congrArg V.str y))
      rw [if_neg z'] at ep
      refine ⟨_, rfl, .inl ⟨rfl, _, SqL.of ac.l⟩, _, rfl, L, vs, _, rfl, rfl, ac.l, hlen, vs ++ [.ref ra], _, rfl, ?_⟩
      rw [take_more ep, List.map_append]
      exact ac.add (dp_mono ac.s _ _ dr0) (Pr.nol r)
  · rintro σ H1 ⟨vs, y, rfl, ac⟩
    have e1 : (G.setB n locs b).procs.take ps.length = (G.setB n locs b).procs := by
      have : (G.setB n locs b).procs.length = ps.length := by rw [lx]; exact List.length_map _
      rw [← this, List.take_length]
    rw [e1] at ac
    have ha1 := sqT_mono ac.s ha
    refine ⟨_, rfl, a, _, 0, _, rfl, rfl, ha1, atI_nat (j := 0) rfl, _, rfl, a, _, 1, _, rfl, rfl, ha1, atI_nat (j := 1) rfl, _, rfl, a, _, 2, _, rfl, rfl, ha1, atI_nat (j := 2) rfl, _, rfl, L, vs, rfl, .inl ⟨SqL.of ac.l, fun tp htp => ?_⟩⟩
    have n1 := same_new htp (.tup vs)
    refine ⟨by show 4 ≤ sizeLine; decide, fun t ht => ?_⟩
    have n2 := same_new ht (.tup [u1, u2, u3, .ref tp])
    have m := ac.s.trans n1
    have dt : Dp K (upd H1 tp (.tup vs)) (.ref tp) (.tuple ((G.setB n locs b).procs.map Pr.d)) := dp_tup htp ac.d
    exact q _ _ (m.trans n2) (dp_tup (ds := [trips G.vars, trips G.tabs, trips G.lots, .tuple ((G.setB n locs b).procs.map Pr.d)]) ht (.cons (dp_mono m _ _ d1) (.cons (dp_mono m _ _ d2) (.cons (dp_mono m _ _ d3) (.cons dt .nil)))))
end
end Toy
set_option Elab.async false
set_option linter.all false
set_option maxRecDepth 100000
set_option maxHeartbeats 4000000
namespace Toy
open PySem L2 NdefX Gm
open Mine hiding same_new
/-- one statement writes what another reads or writes -/
def Meets (s s' : Stm) : Prop := ∃ p, p ∈ s.tw ∧ (p ∈ s'.tr ∨ p ∈ s'.tw)
def SwapTo (G : Ga) (n : Str) (i : Int) (D : Ga) : Prop := ∃ p j s s', Ga.At G n i p j s ∧ p.block.l[j + 1]? = some s' ∧ ¬ Meets s s' ∧ ¬ Meets s' s ∧ D = G.put (p.repl j 2 [s', s])
/-- the local of a let or a draw -/
def SetsL (s : Stm) (x : Str) : Prop := (∃ e, s = .lt x e) ∨ ∃ c, s = .draw x c
def DropTo (G : Ga) (n : Str) (i : Int) (D : Ga) : Prop := ∃ p j s x, Ga.At G n i p j s ∧ SetsL s x ∧ (("local" : Str), x) ∉ (Blk.of (p.block.l.drop (j + 1))).rds ++ p.res.reads ∧ D = G.put (p.repl j 1 [])
def StepTo (G : Ga) (r : Str) (rest : List V) (D : Ga) : Prop := (r = "swap" ∧ ∃ n i, rest = [.str n, .int i] ∧ SwapTo G n i D) ∨ (r = "drop" ∧ ∃ n i, rest = [.str n, .int i] ∧ DropTo G n i D)
/-- games that are small, with few places -/
structure SG (G : Ga) : Prop where
  n : G.procs.length ≤ 2
  f : GaF 5 5 G
  t : ∀ p ∈ G.procs, p.block.tot ≤ 300 ∧ p.block.l.length ≤ 100
  u : Uniq G.procs
  pl : ∃ N : List (Str × Str), N.length ≤ 60 ∧ PlOk G N ∧ UsInj N
def StepPre (G : Ga) (r : Str) (rest : List V) : Prop := SG G ∧ (r = "swap" ∨ r = "drop") ∧ ∃ n i, rest = [.str n, .int i]
theorem two_inj {n n' : Str} {i i' : Int} (e : [V.str n, V.int i] = [V.str n', V.int i']) : n = n' ∧ i = i' := by
  injection e with e1 e
  injection e with e2 _
  injection e1 with e1
  injection e2 with e2
  exact ⟨e1, e2⟩
theorem step_swap {G : Ga} {n : Str} {i : Int} {D : Ga} : StepTo G "swap" [.str n, .int i] D ↔ SwapTo G n i D := by
  constructor
  · rintro (⟨_, n', i', e, h⟩ | ⟨e, _⟩)
    · obtain ⟨rfl, rfl⟩ := two_inj e
      exact h
    · exact absurd e (by decide +kernel)
  · exact fun h => .inl ⟨rfl, _, _, rfl, h⟩
theorem step_drop {G : Ga} {n : Str} {i : Int} {D : Ga} : StepTo G "drop" [.str n, .int i] D ↔ DropTo G n i D := by
  constructor
  · rintro (⟨e, _⟩ | ⟨_, n', i', e, h⟩)
    · exact absurd e (by decide +kernel)
    · obtain ⟨rfl, rfl⟩ := two_inj e
      exact h
  · exact fun h => .inr ⟨rfl, _, _, rfl, h⟩
def spStep (K : PySem.W.Frag) (C B : Addr) (r : Str) : Sp := fun vs H Q E => ∃ (g : Addr) (v : V) (G : Ga) (rest : List V), vs = [.ref g, v] ∧ GmD K C H g G ∧ StA K H v (.str r :: rest) ∧ StepPre G r rest ∧ GaSz G ∧
  (∀ D, StepTo G r rest D → ∀ (g' : Addr) (H' : Hp), Same H H' → GmD K C H' g' D → Q (.ref g') H') ∧ ((∀ D, ¬ StepTo G r rest D) → Rf B r H E)
def spSame (K : PySem.W.Frag) (C B : Addr) : Sp := fun vs H Q E => ∃ (g : Addr) (v : V) (G : Ga) (r : Str) (rest : List V), vs = [.ref g, v] ∧ GmD K C H g G ∧ StA K H v (.str r :: rest) ∧ StepPre G r rest ∧ GaSz G ∧
  (∀ D, StepTo G r rest D → ∀ (g' : Addr) (H' : Hp), Same H H' → GmD K C H' g' D → Q (.ref g') H') ∧ ((∀ D, ¬ StepTo G r rest D) → Rf B r H E)
def spRules {mg : Str → Option Value} {file : Str} (K : PySem.W.Frag) (_w : World) (T : Txt K mg file) : Addr → Sp → Prop := fun f sp => (f = T.a_swap_step ∧ sp = spStep K T.C_Game T.C_BadStep "swap") ∨ (f = T.a_drop_step ∧ sp = spStep K T.C_Game T.C_BadStep "drop")
theorem at_same {G : Ga} {n : Str} {i : Int} {p p' : Pr} {j j' : Nat} {s s' : Stm} (h : Ga.At G n i p j s) (h' : Ga.At G n i p' j' s') : p' = p ∧ j' = j ∧ s' = s := by
  have e1 := h'.1.symm.trans h.1
  cases e1
  have e2 : j' = j := by have := h.2.1; have := h'.2.1; omega
  subst e2
  exact ⟨rfl, rfl, Option.some.inj (h'.2.2.symm.trans h.2.2)⟩
theorem le_tot {l : List Stm} {s : Stm} (h : s ∈ l) : s.tot ≤ (Blk.of l).tot := by
  obtain ⟨i, hi⟩ := List.getElem?_of_mem h
  have := tot_set (t := s) hi
  have e := congrArg (fun l => (Blk.of l).tot) (split_at hi)
  simp only [tot_app, tot_one] at e
  omega
theorem of_l : ∀ b : Blk, Blk.of b.l = b
  | .nil => by unfold Blk.l; rfl
  | .cons s r => by unfold Blk.l; show Blk.cons s (Blk.of r.l) = _; rw [of_l r]
theorem SG.stm {G : Ga} (h : SG G) {p : Pr} (hp : p ∈ G.procs) {s : Stm} (hs : s ∈ p.block.l) : stF 5 5 s ∧ s.tot ≤ 300 := by
  refine ⟨blF.l (h.f.procs p hp).block s hs, ?_⟩
  have h1 := le_tot hs
  rw [of_l] at h1
  exact Nat.le_trans h1 (h.t p hp).1
section
variable {P : Program} {w : World} {K : PySem.W.Frag} {mg : Str → Option Value} {base : Heap} {file : Str}
theorem ok_swap (hP : PrF P file) (T : Txt K mg file) (hF : FormsX K w T.a_FORMS) : FnOk P w K mg base (L2.CX P w) 19 T.a_swap_step T.fd_swap_step ["game", "step"] (spStep K T.C_Game T.C_BadStep "swap") := by
  have G_pair_of : FnOk P w K mg base (L2.CX P w) 6 T.a_pair_of T.fd_pair_of ["game", "step"] (spPairOf K T.C_Game T.C_BadStep) := ok_pairof hP T
  have G_require : FnOk P w K mg base (L2.CX P w) 3 T.a_require T.fd_require ["holds", "step"] (spReq K T.C_BadStep) := ok_require hP T
  have G_disturbs : FnOk P w K mg base CX0 18 T.a_disturbs T.fd_disturbs ["statement", "other"] (spDist K 5 5) := ok_dist T hF 5 5
  have G_replaced : FnOk P w K mg base CX0 4 T.a_replaced T.fd_replaced ["game", "proc", "at", "many", "statements"] (spRepl K T.C_Game) := ok_repl T
  refine T.F_swap_step.okX sc_swap_step (fun vs H Q E h => ?_) (fun cdv A outer s H vs Q E hr h => ?_)
  · obtain ⟨g, v, G, rest, rfl, _⟩ := h
    rfl
  obtain ⟨g, v, G, rest, rfl, hg, ⟨sa, rfl, hsa⟩, ⟨sg, _, n, i, rfl⟩, sz, q1, q2⟩ := h
  replace q1 := fun D h => q1 D (step_swap.mpr h)
  replace q2 : (∀ D, ¬ SwapTo G n i D) → Rf T.C_BadStep "swap" H E := fun h => q2 fun D z => h D (step_swap.mp z)
  have hr1 : ("swap" : Str).length ≤ 1000 := by decide +kernel
  refine ⟨_, (pss_cons (ps_asg (pe_call G_pair_of (hr.mono (by omega)) rfl T.g_pair_of T.k_pair_of T.b_pair_of .nil (passes_call (takes_of rfl rfl rfl rfl) (fun _ _ _ _ z => z)) (pa_cons (pv 0) (pa_cons (pv 1) pa_nil))) (pg_tup rfl (pgs_cons (pg_name (i := 2) sc_swap_step.nd rfl (Or.inl rfl)) (pgs_cons (pg_name (i := 3) sc_swap_step.nd rfl (Or.inl rfl)) (pgs_cons (pg_name (i := 4) sc_swap_step.nd rfl (Or.inl rfl)) pgs_nil)))))
    (pss_cons (ps_expr (pe_call G_require (hr.mono (by omega)) rfl T.g_require T.k_require T.b_require .nil (passes_call (takes_of rfl rfl rfl rfl) (fun _ _ _ _ z => z)) (pa_cons (pe_and (pe_not (pe_call G_disturbs (hr.mono (by omega)) rfl T.g_disturbs T.k_disturbs T.b_disturbs .nil pass0 (pa_cons (pv 3) (pa_cons (pv 4) pa_nil)))) (pe_one (pe_not (pe_call G_disturbs (hr.mono (by omega)) rfl T.g_disturbs T.k_disturbs T.b_disturbs .nil pass0 (pa_cons (pv 4) (pa_cons (pv 3) pa_nil)))))) (pa_cons (pv 1) pa_nil))))
    (pss_one (ps_ret (pe_call G_replaced (hr.mono (by omega)) rfl T.g_replaced T.k_replaced T.b_replaced .nil pass0 (pa_cons (pv 0) (pa_cons (pv 2) (pa_cons (pe_ix ix_tup (pv 1) pe_int (fun _ _ => rfl)) (pa_cons pe_int (pa_cons (pe_tup (pa_cons (pv 4) (pa_cons (pv 3) pa_nil))) pa_nil)))))))))), ?_⟩
  refine ⟨_, rfl, _, rfl, g, .ref sa, G, "swap", n, i, _, rfl, hg, ⟨sa, rfl, hsa⟩, hr1, fun p j s s' hat hs' t u z y H1 m1 ht hu hz hy => ?_, fun hno => q2 fun D ⟨p, j, s, s', h1, h2, _⟩ => hno p j _ _ ⟨h1, h2⟩⟩
  refine ⟨t, _, rfl, ht, rfl, _, _, rfl, _, _, rfl, _, _, rfl, rfl, ?_⟩
  have hpm := Ga.proc_mem hat.1
  obtain ⟨N, hN, pl, _⟩ := sg.pl
  have s1 := sg.stm hpm.1 (List.mem_of_getElem? hat.2.2)
  have s2 := sg.stm hpm.1 (List.mem_of_getElem? hs')
  have p1 := Blk.pl_l (pl p hpm.1).1 s (List.mem_of_getElem? hat.2.2)
  have p2 := Blk.pl_l (pl p hpm.1).1 s' (List.mem_of_getElem? hs')
  have no : ∀ {H' : Hp} (_ : Same H H') (_ : ¬ Meets s s' → ¬ Meets s' s → False), Rf T.C_BadStep "swap" H' E := fun {H'} m h => (q2 fun D ⟨p', j', t, t', h1, h2, h3, h4, _⟩ => by
    obtain ⟨rfl, rfl, rfl⟩ := at_same hat h1
    have e4 := Option.some.inj (hs'.symm.trans h2)
    subst e4
    exact h h3 h4).same m
  refine ⟨_, rfl, _, rfl, z, y, s, s', N, rfl, hz, hy, s1.1, s2.1, by decide, by omega, by omega, p1, p2, hN, fun b1 H2 m2 hb1 => ?_⟩
  have m12 := m1.trans m2
  cases b1 with
  | true =>
    refine ⟨true, rfl, false, rfl, iteF2 rfl ?_⟩
    exact ⟨_, rfl, false, .ref sa, "swap", _, rfl, ⟨sa, rfl, sqT_mono m12 hsa⟩, hr1, fun z => Bool.noConfusion z, fun _ => no m12 fun h _ => h (hb1.mp rfl)⟩
  | false =>
  have f1 : ¬ Meets s s' := fun h => Bool.noConfusion (hb1.mpr h)
  refine ⟨false, rfl, true, rfl, iteT2 rfl ?_⟩
  refine ⟨_, rfl, _, rfl, y, z, s', s, N, rfl, dp_mono m2 _ _ hy, dp_mono m2 _ _ hz, s2.1, s1.1, by decide, by omega, by omega, p2, p1, hN, fun b2 H3 m3 hb2 => ?_⟩
  have m13 := m12.trans m3
  have hsa3 := sqT_mono m13 hsa
  cases b2 with
  | true =>
    refine ⟨true, rfl, ?_⟩
    exact ⟨_, rfl, false, .ref sa, "swap", _, rfl, ⟨sa, rfl, hsa3⟩, hr1, fun z => Bool.noConfusion z, fun _ => no m13 fun _ h => h (hb2.mp rfl)⟩
  | false =>
  have f2 : ¬ Meets s' s := fun h => Bool.noConfusion (hb2.mpr h)
  refine ⟨false, rfl, ?_⟩
  refine ⟨_, rfl, true, .ref sa, "swap", _, rfl, ⟨sa, rfl, hsa3⟩, hr1, fun _ => ?_, fun z => Bool.noConfusion z⟩
  have m23 := m2.trans m3
  refine ⟨_, rfl, _, rfl, _, rfl, sa, _, 2, _, rfl, rfl, hsa3, atI_nat (j := 2) rfl, _, rfl, _, rfl, by show 2 ≤ sizeLine; decide, fun t2 h2 => ?_⟩
  have m4 := same_new h2 (.tup [y, z])
  have m14 := m13.trans m4
  have m24 := m23.trans m4
  have dt : Dp K _ (.ref t2) (.tuple ([s', s].map Stm.d)) := dp_tup (ds := [s'.d, s.d]) h2 (.cons (dp_mono m23 _ _ hy) (.cons (dp_mono m23 _ _ hz) .nil))
  refine ⟨g, u, .ref t2, j, 2, G, p, [s', s], ?_, hg.same m14, dp_mono m24 _ _ hu, dt, sz.n, ?_, fun g' H' m5 gd => q1 _ ⟨p, j, s, s', hat, hs', f1, f2, rfl⟩ g' H' (m14.trans m5) gd⟩
  · rw [hat.2.1]; rfl
  · have := (sg.t p hpm.1).2
    simp only [List.length_cons, List.length_nil]
    omega
end
end Toy
set_option Elab.async false
set_option linter.all false
set_option maxRecDepth 100000
set_option maxHeartbeats 4000000
namespace Toy
open PySem L2 NdefX Gm
open Mine hiding same_new
theorem nb {b : Bool} (h : (!b) = false) : b = true := by cases b <;> first | rfl | exact nomatch h
theorem nb' {b : Bool} (h : (!b) = true) : b = false := by cases b <;> first | rfl | exact nomatch h
theorem setsL_kind {s : Stm} (h : s.kind = "let" ∨ s.kind = "draw") : ∃ x, SetsL s x := by
  cases s <;> first | exact ⟨_, .inl ⟨_, rfl⟩⟩ | exact ⟨_, .inr ⟨_, rfl⟩⟩ | (dsimp only [Stm.kind] at h; exact absurd h (by decide +kernel))
theorem kind_setsL {s : Stm} {x : Str} (h : SetsL s x) : s.kind = "let" ∨ s.kind = "draw" := by
  rcases h with ⟨e, rfl⟩ | ⟨c, rfl⟩
  · exact .inl rfl
  · exact .inr rfl
theorem setsL_inj {s : Stm} {x y : Str} (h : SetsL s x) (h' : SetsL s y) : x = y := by
  rcases h with ⟨e, rfl⟩ | ⟨c, rfl⟩ <;> rcases h' with ⟨e', h⟩ | ⟨c', h⟩ <;> (cases h <;> rfl)
theorem setsL_nm {s : Stm} {x : Str} {k d : Nat} (h : SetsL s x) (f : stF k d s) : nmB x = true := by
  rcases h with ⟨e, rfl⟩ | ⟨c, rfl⟩ <;> (unfold stF at f; exact f.1)
theorem setsL_d {K : PySem.W.Frag} {H : Hp} {zr : List V} {s : Stm} {x : Str} (h : SetsL s x) (hd : DpAll K H zr s.args) : ∃ r, zr = .str x :: r := by
  rcases h with ⟨e, rfl⟩ | ⟨c, rfl⟩ <;> (obtain ⟨u, r, rfl, d1, _⟩ := dps_cons hd; exact ⟨r, by rw [dp_s d1]⟩)
theorem rds_ok {k d : Nat} {p : Pr} (hb : blF k d p.block) (hr : exF k p.res) : ∀ q ∈ p.rds, PyData.strOk q.1 = true ∧ PyData.strOk q.2 = true := by
  intro q hq
  rcases List.mem_append.mp (show q ∈ p.block.rds ++ p.res.reads from hq) with hq | hq
  · obtain ⟨s, hs, hq⟩ := List.mem_flatMap.mp hq
    have fs := Blk.all_fit hb s hs
    rcases List.mem_append.mp (show q ∈ s.own.flatMap Ex.reads ++ s.rd2 from hq) with hq | hq
    · obtain ⟨e, he, hq⟩ := List.mem_flatMap.mp hq
      exact reads_ok (own_fit fs e he) q hq
    · cases s with
      | lot l o e => unfold stF at fs; rw [List.mem_singleton.mp hq]; exact ⟨by show PyData.strOk "lots" = true; decide +kernel, nm_ok fs.2.1⟩
      | after a => rw [List.mem_singleton.mp hq]; exact ⟨by show PyData.strOk "bad" = true; decide +kernel, by show PyData.strOk "" = true; decide +kernel⟩
      | _ => cases hq
  · exact reads_ok hr q hq
section
variable {P : Program} {w : World} {K : PySem.W.Frag} {mg : Str → Option Value} {base : Heap} {file : Str}
theorem ok_drop (hP : PrF P file) (T : Txt K mg file) (hF : FormsX K w T.a_FORMS) : FnOk P w K mg base (L2.CX P w) 19 T.a_drop_step T.fd_drop_step ["game", "step"] (spStep K T.C_Game T.C_BadStep "drop") := by
  have G_statement_of : FnOk P w K mg base (L2.CX P w) 5 T.a_statement_of T.fd_statement_of ["game", "step"] (spStmOf K T.C_Game T.C_BadStep) := ok_stmof hP T
  have G_require : FnOk P w K mg base (L2.CX P w) 3 T.a_require T.fd_require ["holds", "step"] (spReq K T.C_BadStep) := ok_require hP T
  have G_block_reads : FnOk P w K mg base CX0 15 T.a_block_reads T.fd_block_reads ["block"] (spBR K 5 5) := ok_br T hF 5 5
  have G_expression_reads : FnOk P w K mg base CX0 7 T.a_expression_reads T.fd_expression_reads ["expression"] (spExReads K 5) := ok_exreads T 5
  have G_replaced : FnOk P w K mg base CX0 4 T.a_replaced T.fd_replaced ["game", "proc", "at", "many", "statements"] (spRepl K T.C_Game) := ok_repl T
  refine T.F_drop_step.okX sc_drop_step (fun vs H Q E h => ?_) (fun cdv A outer s0 H vs Q E hr h => ?_)
  · obtain ⟨g, v, G, rest, rfl, _⟩ := h
    rfl
  obtain ⟨g, v, G, rest, rfl, hg, ⟨sa, rfl, hsa⟩, ⟨sg, _, n, i, rfl⟩, sz, q1, q2⟩ := h
  replace q1 := fun D h => q1 D (step_drop.mpr h)
  replace q2 : (∀ D, ¬ DropTo G n i D) → Rf T.C_BadStep "drop" H E := fun h => q2 fun D z => h D (step_drop.mp z)
  have hr1 : ("drop" : Str).length ≤ 1000 := by decide +kernel
  refine ⟨_, (pss_cons (ps_asg (pe_call G_statement_of (hr.mono (by omega)) rfl T.g_statement_of T.k_statement_of T.b_statement_of .nil (passes_call (takes_of rfl rfl rfl rfl) (fun _ _ _ _ z => z)) (pa_cons (pv 0) (pa_cons (pv 1) pa_nil))) (pg_tup rfl (pgs_cons (pg_name (i := 2) sc_drop_step.nd rfl (Or.inl rfl)) (pgs_cons (pg_name (i := 3) sc_drop_step.nd rfl (Or.inl rfl)) pgs_nil))))
    (pss_cons (ps_expr (pe_call G_require (hr.mono (by omega)) rfl T.g_require T.k_require T.b_require .nil (passes_call (takes_of rfl rfl rfl rfl) (fun _ _ _ _ z => z)) (pa_cons (pe_cmpR op_in_seq (pe_ix ix_tup (pv 3) pe_int (fun _ _ => rfl)) (pe_tup (pa_cons pe_str (pa_cons pe_str pa_nil))) rfl) (pa_cons (pv 1) pa_nil))))
    (pss_cons (ps_set (i := 4) sc_drop_step.nd rfl (Or.inl rfl) (pe_lst (StX.pa_star (pe_call G_block_reads (hr.mono (by omega)) rfl T.g_block_reads T.k_block_reads T.b_block_reads .nil pass0 (pa_cons (pe_slice (slTB K rfl) (pe_ix ix_tup (pv 2) pe_int (fun _ _ => rfl)) (po_some (pe_op op_add (pe_ix ix_tup (pv 1) pe_int (fun _ _ => rfl)) pe_int)) po_none) pa_nil)) (StX.pa_star (pe_call G_expression_reads (hr.mono (by omega)) rfl T.g_expression_reads T.k_expression_reads T.b_expression_reads .nil pass0 (pa_cons (pe_ix ix_tup (pv 2) pe_int (fun _ _ => rfl)) pa_nil)) pa_nil))))
    (pss_cons (ps_expr (pe_call G_require (hr.mono (by omega)) rfl T.g_require T.k_require T.b_require .nil (passes_call (takes_of rfl rfl rfl rfl) (fun _ _ _ _ z => z)) (pa_cons (pe_cmpR (SeT.notInDK K rfl (units65 hr)) (pe_tup (pa_cons pe_str (pa_cons (pe_ix ix_tup (pv 3) pe_int (fun _ _ => rfl)) pa_nil))) (pv 4) rfl) (pa_cons (pv 1) pa_nil))))
    (pss_one (ps_ret (pe_call G_replaced (hr.mono (by omega)) rfl T.g_replaced T.k_replaced T.b_replaced .nil pass0 (pa_cons (pv 0) (pa_cons (pv 2) (pa_cons (pe_ix ix_tup (pv 1) pe_int (fun _ _ => rfl)) (pa_cons pe_int (pa_cons (pe_tup pa_nil) pa_nil)))))))))))), ?_⟩
  refine ⟨_, rfl, _, rfl, g, .ref sa, G, "drop", n, i, _, rfl, hg, ⟨sa, rfl, hsa⟩, hr1, fun p j s hat t u z H1 m1 ht hu hz => ?_, fun hno => q2 fun D ⟨p, j, s, x, h1, _⟩ => hno p j _ h1⟩
  refine ⟨t, _, rfl, ht, rfl, _, _, rfl, _, _, rfl, rfl, ?_⟩
  have hpm := Ga.proc_mem hat.1
  have s1 := sg.stm hpm.1 (List.mem_of_getElem? hat.2.2)
  have hsa1 := sqT_mono m1 hsa
  have no : ∀ {H' : Hp} (_ : Same H H') (_ : ∀ x, SetsL s x → (("local" : Str), x) ∉ (Blk.of (p.block.l.drop (j + 1))).rds ++ p.res.reads → False), Rf T.C_BadStep "drop" H' E := fun {H'} m h => (q2 fun D ⟨p', j', t, x, h1, h2, h3, _⟩ => by
    obtain ⟨rfl, rfl, rfl⟩ := at_same hat h1
    exact h x h2 h3).same m
  have hz0 := hz
  obtain ⟨za, zr, rfl, hza, dzr⟩ := stm_inv hz
  refine ⟨_, rfl, za, _, 0, _, rfl, rfl, hza, atI_nat (j := 0) rfl, by show 2 ≤ sizeLine; decide, fun t1 h1 => ?_⟩
  have m2 := same_new h1 (.tup [V.str "let", .str "draw"])
  have m12 := m1.trans m2
  have hsa2 := sqT_mono m12 hsa
  refine ⟨_, _, rfl, .inr (SqT.of upd_same), rfl, by decide +kernel, _, rfl, ?_⟩
  rw [if_neg Bool.false_ne_true, show inV (.str s.kind) [V.str "let", .str "draw"] = decide (s.kind ∈ (["let", "draw"] : List Str)) from Pz.inV_strs s.kind ["let", "draw"]]
  refine ⟨_, .ref sa, "drop", _, rfl, ⟨sa, rfl, hsa2⟩, hr1, fun c1 => ?_, fun c1 => no m12 fun x h _ => of_decide_eq_false c1 (by rcases kind_setsL h with e | e <;> rw [e] <;> simp)⟩
  have c1 := of_decide_eq_true c1
  obtain ⟨x, hx⟩ := setsL_kind (s := s) (by simpa using c1)
  have nmx := setsL_nm hx s1.1
  obtain ⟨zr', rfl⟩ := setsL_d hx dzr
  have hu2 := dp_mono m2 _ _ hu
  have hu0 := hu2
  obtain ⟨pra, la, ba, rv, bs, rfl, hpra, hla, hba, dbs, dres⟩ := pr_inv hu2
  have hza2 := sqT_mono m2 hza
  have lb : bs.length = p.block.l.length := (DpAll.len dbs).trans (List.length_map _)
  have t300 := (sg.t p hpm.1)
  clear hz hz0 dzr ht
  revert m2 m12 hsa2 hu0 hpra hla hba dbs dres hza2
  generalize upd H1 t1 (.tup [V.str "let", .str "draw"]) = H2
  intro m2 m12 hsa2 hu0 hpra hla hba dbs dres hza2
  have ej := hat.2.1
  subst ej
  refine ⟨_, rfl, pra, _, 4, _, rfl, rfl, hpra, atI_nat (j := 4) rfl, _, rfl, sa, _, 2, _, rfl, rfl, hsa2, atI_nat (j := 2) rfl, _, _, rfl, rfl, _, rfl, ba, bs, rfl, hba, fun b1 H3 m3 hb1 => ?_⟩
  rw [show ((j : Nat) : Int) + 1 = ((j + 1 : Nat) : Int) from rfl, cut_drop] at hb1
  have db1 : Dp K H3 (.ref b1) (Blk.of (p.block.l.drop (j + 1))).d := by
    refine .tup hb1 ?_
    rw [Blk.ds_of, List.map_drop]
    exact DpAll.drop (j + 1) (dp_monoAll m3 _ _ dbs)
  have bf := (sg.f.procs p hpm.1).block
  have bfd : blF 5 5 (Blk.of (p.block.l.drop (j + 1))) := blF.of fun x hx => blF.l bf x (List.mem_of_mem_drop hx)
  have rf := (sg.f.procs p hpm.1).res
  have tdr : (Blk.of (p.block.l.drop (j + 1))).tot ≤ 300 := by
    have e := tot_app (p.block.l.take (j + 1)) (p.block.l.drop (j + 1))
    rw [List.take_append_drop, of_l] at e
    omega
  have m13 := m12.trans m3
  refine ⟨.ref b1, _, rfl, db1, bfd, by decide, by omega, fun L1 us H4 n4 m4 h4 d4 => ?_⟩
  have m14 := m13.trans m4
  refine ⟨L1, us, rfl, .inr (SqL.of h4), _, rfl, pra, _, 5, _, rfl, rfl, sqT_mono (m3.trans m4) hpra, atI_nat (j := 5) rfl, rv, p.res, rfl, dp_mono (m3.trans m4) _ _ dres, rf, by decide, fun L2 ws H5 n5 m5 h5 d5 => ?_⟩
  refine ⟨L2, ws, rfl, .inr (SqL.of h5), ?_, fun L hL => ?_⟩
  · have g1 := rds_len bfd
    have g2 := mul_bd (show (Blk.of (p.block.l.drop (j + 1))).tot ≤ 700 by omega) (show 2 * 2 ^ 5 + 1 ≤ 129 by decide)
    have g3 := reads_len2 rf
    have g4 := DpAll.len d4
    have g5 := DpAll.len d5
    rw [List.length_map] at g4 g5
    refine Nat.le_trans (show _ ≤ 200000 from ?_) (by decide)
    simp only [List.length_append, List.length_nil]
    omega
  have m6 := same_new hL (.lst (us ++ (ws ++ [])))
  have hl : (upd H5 L (.lst (us ++ (ws ++ [])))) L = some (.lst (us ++ (ws ++ []))) := upd_same
  have dl : DpAll K (upd H5 L (.lst (us ++ (ws ++ [])))) (us ++ (ws ++ [])) (((Blk.of (p.block.l.drop (j + 1))).rds ++ p.res.reads).map plD) := by
    rw [List.map_append]
    have z := DpAll.app (dp_monoAll m6 _ _ d5) DpAll.nil
    rw [List.append_nil (p.res.reads.map plD)] at z
    exact DpAll.app (dp_monoAll (m5.trans m6) _ _ d4) z
  have m15 := m14.trans (m5.trans m6)
  revert m6 hl dl m15
  generalize upd H5 L (.lst (us ++ (ws ++ []))) = H6
  intro m6 hl dl m15
  have m26 := m3.trans (m4.trans (m5.trans m6))
  have hza6 := sqT_mono m26 hza2
  refine ⟨_, rfl, za, _, 1, _, rfl, rfl, hza6, atI_nat (j := 1) rfl, by show 2 ≤ sizeLine; decide, fun t2 h2 => ⟨_, rfl, ?_⟩⟩
  have m7 := same_new h2 (.tup [V.str "local", .str x])
  have m17 := m15.trans m7
  have dt : Dp K (upd H6 t2 (.tup [V.str "local", .str x])) (.ref t2) (plD ("local", x)) := dp_tup (ds := [.str "local", .str x]) h2 (.cons (.str _) (.cons (.str _) .nil))
  have hp : PyData.strOk (("local" : Str), x).1 = true ∧ PyData.strOk (("local" : Str), x).2 = true := ⟨strOk_lit.2.1, nm_ok nmx⟩
  have okr := rds_ok (p := { p with block := Blk.of (p.block.l.drop (j + 1)) }) bfd rf
  have any := any_pl hp okr
  refine ⟨plD ("local", x), _, dt, .lst (SqL.of (m7 _ _ hl)) (dp_monoAll m7 _ _ dl), (fit_pl (n := 0) hp).shaped (by decide), (fit_pls (n := 0) okr).shaped (by decide), ?_⟩
  refine ⟨_, rfl, _, .ref sa, "drop", _, rfl, ⟨sa, rfl, sqT_mono (m26.trans m7) hsa2⟩, hr1, fun c2 => ?_, fun c2 => no m17 fun y h hy => ?_⟩
  rotate_left
  · have e := setsL_inj h hx
    subst e
    exact hy (any.mp (nb c2))
  have c2' : (("local" : Str), x) ∉ (Blk.of (p.block.l.drop (j + 1))).rds ++ p.res.reads := fun z => by
    exact Bool.noConfusion ((nb' c2).symm.trans (any.mpr z))
  have m27 := m26.trans m7
  refine ⟨_, rfl, _, rfl, _, rfl, sa, _, 2, _, rfl, rfl, sqT_mono m27 hsa2, atI_nat (j := 2) rfl, by show 0 ≤ sizeLine; decide, fun t3 h3 => ?_⟩
  have m8 := same_new h3 (.tup [])
  have m18 := m17.trans m8
  have d0 : Dp K _ (.ref t3) (.tuple (([] : List Stm).map Stm.d)) := dp_tup (ds := []) h3 .nil
  refine ⟨g, .ref pra, .ref t3, j, 1, G, p, [], rfl, hg.same m18, dp_mono (m27.trans m8) _ _ hu0, d0, sz.n, by simp only [List.length_nil]; omega, fun g' H' m9 gd => q1 _ ⟨p, j, s, x, hat, hx, c2', rfl⟩ g' H' (m18.trans m9) gd⟩
end
end Toy
set_option Elab.async false
set_option linter.all false
set_option maxRecDepth 100000
set_option maxHeartbeats 4000000
namespace Toy
open PySem L2 NdefX Gm
open Mine hiding same_new
section
variable {P : Program} {w : World} {K : PySem.W.Frag} {mg : Str → Option Value} {base : Heap} {file : Str}
theorem ok_same (hP : PrF P file) (T : Txt K mg file) (hF : FormsX K w T.a_FORMS) (hR : ∃ es n, L2.KDict K w T.a_RULES es n) : FnOk P w K mg base (L2.CX P w) 20 T.a_same T.fd_same ["game", "step"] (spSame K T.C_Game T.C_BadStep) := by
  obtain ⟨es, nk, hKD⟩ := hR
  have hS : ∀ f sp, spRules K w T f sp → ∃ fd ps, FnOk P w K mg base (L2.CX P w) 19 f fd ps sp ∧ PySem.W.keepIn K (.ref f) = true ∧ L2.Binds K fd ps [] := by
    rintro f sp (⟨rfl, rfl⟩ | ⟨rfl, rfl⟩)
    · exact ⟨_, _, ok_swap hP T hF, T.k_swap_step, T.b_swap_step⟩
    · exact ⟨_, _, ok_drop hP T hF, T.k_drop_step, T.b_drop_step⟩
  refine T.F_same.okX sc_same (fun vs H Q E h => ?_) (fun cdv A outer s H vs Q E hr h => ?_)
  · obtain ⟨g, v, G, r, rest, rfl, _⟩ := h
    rfl
  obtain ⟨g, v, G, r, rest, rfl, hg, ⟨sa, rfl, hsa⟩, pre, sz, q1, q2⟩ := h
  refine ⟨_, (pss_cons (ps_if ((pt_cmpR (op_notIn_kd hKD) (pe_ix ix_tup (pv 1) pe_int (fun _ _ => rfl)) (pe_glob (v := .ref T.a_RULES) rfl T.g_RULES rfl) rfl))
      (pss_one (ps_raise rfl (takes_of rfl rfl rfl rfl) (pmk_err T.E_BadStep (err_BadStep (k := 0) T.E_BadStep hP) T.b_BadStep_init (hr.mono (by decide)) rfl T.g_BadStep (pa_cons (pe_ix ix_tup (pv 1) pe_int (fun _ _ => rfl)) pa_nil))))
      pss_nil)
    (pss_cons (ps_set (i := 2) sc_same.nd rfl (Or.inl rfl) (pe_ix ix_kdict (pe_glob (v := .ref T.a_RULES) rfl T.g_RULES rfl) (pe_ix ix_tup (pv 1) pe_int (fun _ _ => rfl)) (fun _ _ => rfl)))
    (pss_one (ps_ret (CaL.pe_callLS (i := 2) (S := spRules K w T) hS (hr.mono (by omega)) rfl (.inl rfl) (passes_call (takes_of rfl rfl rfl rfl) (fun _ _ _ _ z => z)) (pa_cons (pv 0) (pa_cons (pv 1) pa_nil))))))), ?_⟩
  obtain ⟨f, hn, hf⟩ : ∃ f : Addr, PySem.W.nsIn K T.a_RULES r = some (some (.ref f)) ∧ spRules K w T f (spStep K T.C_Game T.C_BadStep r) := by
    rcases id pre.2.1 with rfl | rfl
    · exact ⟨T.a_swap_step, T.ns_RULES_0, .inl ⟨rfl, rfl⟩⟩
    · exact ⟨T.a_drop_step, T.ns_RULES_1, .inr ⟨rfl, rfl⟩⟩
  refine ⟨_, rfl, sa, _, 0, _, rfl, rfl, hsa, atI_nat (j := 0) rfl, r, _, rfl, rfl, hn, _, rfl, iteF ?_⟩
  refine ⟨_, rfl, sa, _, 0, _, rfl, rfl, hsa, atI_nat (j := 0) rfl, _, _, .ref f, rfl, rfl, ⟨es, nk, _, hKD.at_, hKD.lit, hn, rfl⟩, ?_⟩
  refine ⟨f, _, rfl, hf, _, rfl, _, rfl, ?_⟩
  exact ⟨g, .ref sa, G, rest, rfl, hg, ⟨sa, rfl, hsa⟩, pre, sz, q1, q2⟩
end
end Toy
set_option Elab.async false
set_option linter.all false
set_option maxRecDepth 100000
set_option maxHeartbeats 4000000
namespace Toy
open PySem L2 NdefX Gm
open Mine hiding same_new
def refs : List Addr → TA
  | [] => tNil
  | a :: r => tCons (tC (.ref a)) (refs r)
def rNon : R2 := fun x y H Q => y = .non ∧ Q (.bl (decide (x = .non))) H
def tb_tried (C B : Addr) (K : PySem.W.Frag) : WX → TS := fun W => tAsg (tCallS (spSame K C B) (WE W) (tCons (tVar 0) (tCons (tVar 1) tNil))) (gName 3)
def ts_tried (K : PySem.W.Frag) (B : Addr) (Es : List Addr) : Addr → Value → Option Addr → TS := fun a cls d =>
  tSeq (tIfS (tOr (tB (tCB (IsD.rIsET2 K B a cls d) (tCons (tVar 4) (tCons (tTup (refs Es)) tNil)))) (tNot (tB (tCB (IsD.rIsE2 K B a cls d) (tCons (tVar 4) (tCons (tC (.ref B)) tNil)))))) (tRet (tC (.bl false))) tNext)
    (tRet (tAndV (tOp rNon (tVar 2) (tC .non)) (tOp rEq (tXf a cls d B "rule" (tVar 4)) (tOp (rIxT K) (tVar 1) (tC (.int 0))))))
/-- what the law expects of a step -/
def DueOk (K : PySem.W.Frag) (H : Hp) (due : V) (G : Ga) (r : Str) (rest : List V) : Prop := (due = .non ∧ ∀ D, ¬ StepTo G r rest D) ∨ ∃ D, Dp K H due D.d ∧ StepTo G r rest D ∧ GaF 12 12 D ∧ ∀ D', StepTo G r rest D' → D' = D
def spTried (K : PySem.W.Frag) (C : Addr) : Sp := fun vs H Q _ => ∃ (g : Addr) (v due : V) (G : Ga) (r : Str) (rest : List V), vs = [.ref g, v, due] ∧ GmD K C H g G ∧ StA K H v (.str r :: rest) ∧ StepPre G r rest ∧ GaSz G ∧
  DueOk K H due G r rest ∧ ∀ H', Same H H' → Q (.bl true) H'
section
variable {P : Program} {w : World} {K : PySem.W.Frag} {mg : Str → Option Value} {base : Heap} {file : Str}
theorem ok_tried (hP : PrF P file) (T : Txt K mg file) (hF : FormsX K w T.a_FORMS) (hR : ∃ es n, L2.KDict K w T.a_RULES es n) : FnOk P w K mg base CX0 22 T.a_law_tried T.fd_law_tried ["made", "step", "due"] (spTried K T.C_Game) := by
  have G_same : FnOk P w K mg base (L2.CX P w) 20 T.a_same T.fd_same ["game", "step"] (spSame K T.C_Game T.C_BadStep) := ok_same hP T hF hR
  have G_law_made : FnOk P w K mg base CX0 3 T.a_law_made T.fd_law_made ["game"] (spMade K T.C_Game) := ok_made T
  have G_law_parts : FnOk P w K mg base CX0 1 T.a_law_parts T.fd_law_parts ["game"] (spParts K T.C_Game) := ok_parts T
  have G_Game_eq : FnOk P w K mg base CX0 1 T.a_Game_eq T.fd_Game_eq ["self", "other"] (spGEq K T.C_Game) := ok_geq T
  refine T.F_law_tried.ok sc_law_tried (fun vs H Q E h => ?_) (fun cdv A outer s H vs Q E hr h => ?_)
  · obtain ⟨g, v, due, G, r, rest, rfl, _⟩ := h
    rfl
  obtain ⟨g, v, due, G, r, rest, rfl, hg, ⟨sa, rfl, hsa⟩, pre, sz, hdue, q⟩ := h
  refine ⟨_, (pss_cons (ps_try_as (i := 4) (tb := tb_tried T.C_Game T.C_BadStep K) (ts := ts_tried K T.C_BadStep [T.C_BadBound, T.C_BadCall, T.C_BadPlayer, T.C_BadText, T.C_TooLarge]) (Wout := fun _ _ _ _ => False) rfl rfl sc_law_tried.nd rfl rfl ⟨rfl, by decide, Or.inl T.g_PlayError⟩ takes0
      (fun W pn xe tk _ => by exact (pss_one (ps_set (i := 3) sc_law_tried.nd rfl (Or.inl rfl) (pe_callS G_same (hr.mono (by omega)) rfl T.g_same T.k_same T.b_same (fun σ => passAt tk σ) (pa_cons (pv 0) (pa_cons (pv 1) pa_nil))))))
      (fun a oe cls d pn hz hf => by exact (pss_cons (ps_if (PW.pt (pw_or (pt_val (pe_callB (IsD.call_isET2 T.ec_BadStep hz hf) (by rfl) T.z_isinstance (by decide +kernel) (pa_cons (pv 4) (pa_cons (pe_tup (pa_cons (pe_glob (v := .ref T.C_BadBound) rfl T.g_BadBound rfl) (pa_cons (pe_glob (v := .ref T.C_BadCall) rfl T.g_BadCall rfl) (pa_cons (pe_glob (v := .ref T.C_BadPlayer) rfl T.g_BadPlayer rfl) (pa_cons (pe_glob (v := .ref T.C_BadText) rfl T.g_BadText rfl) (pa_cons (pe_glob (v := .ref T.C_TooLarge) rfl T.g_TooLarge rfl) pa_nil)))))) pa_nil)))) (pw_or1 (pt_not (pt_val (pe_callB (IsD.call_isE2 T.ec_BadStep hz hf) (by rfl) T.z_isinstance (by decide +kernel) (pa_cons (pv 4) (pa_cons (pe_glob (v := .ref T.C_BadStep) rfl T.g_BadStep rfl) pa_nil))))))))
      (pss_one (ps_ret pe_bl))
      pss_nil)
    (pss_one (ps_ret (pe_and (pe_cmpR op_isN (pv 2) pe_non (nomark _)) (pe_one (pe_cmpR op_eq ((pe_xf ⟨T.xga_BadStep, T.xgg_BadStep, T.xb_BadStep, T.xd_BadStep⟩ T.E_BadStep.no hz hf (pv 4))) (pe_ix ix_tup (pv 1) pe_int (fun _ _ => rfl)) (nomark _)))))))))
    (pss_one (ps_ret (pe_and (pe_cmpR op_notN (pv 2) pe_non (nomark _)) (pe_and (pe_cmpR (op_ownEq G_Game_eq (hr.mono (by omega)) T.b_Game_eq pass0 T.m_Game_eq.at_ T.m_Game_eq.fn) (pv 3) (pe_call G_law_made (hr.mono (by omega)) rfl T.g_law_made T.k_law_made T.b_law_made .nil pass0 (pa_cons (pv 2) pa_nil)) (nomark _)) (pe_one (pe_cmpR (op_eqD hr.units) (pe_call G_law_parts (hr.mono (by omega)) rfl T.g_law_parts T.k_law_parts T.b_law_parts .nil pass0 (pa_cons (pv 3) pa_nil)) (pv 2) (nomark _)))))))), ?_⟩
  refine ⟨_, rfl, _, rfl, g, .ref sa, G, r, rest, rfl, hg, ⟨sa, rfl, hsa⟩, pre, sz, fun D hD g' H1 m1 gd => ?_, fun hno d H' sm hd => ?_⟩
  · rcases hdue with ⟨_, z⟩ | ⟨D', dd, hD', fD, uq⟩
    · exact absurd hD (z D)
    have e := uq D hD
    subst e
    obtain ⟨da, _, _, _, _, _, rfl, _⟩ := ga_inv dd
    refine ⟨_, rfl, rfl, _, rfl, iteT2 rfl ?_⟩
    refine ⟨_, rfl, _, rfl, .ref da, D, rfl, dp_mono m1 _ _ dd, fun g2 H2 m2 gd2 => ?_⟩
    have gd1 := gd.same m2
    obtain ⟨dx, a1, a2, a3, a4, hg1, _⟩ := id gd1
    obtain ⟨dy, b1, b2, b3, b4, hg2, _⟩ := id gd2
    refine ⟨g', g2, dx, dy, _, _, rfl, rfl, hg1, hg2, g', g2, D, D, 12, 12, 12, 12, rfl, gd1, gd2, fD, fD, by decide, by decide, fun b hb => ?_⟩
    refine ⟨b, rfl, iteT2 (hb.mpr rfl) ?_⟩
    refine ⟨_, rfl, g', D, rfl, gd1, fun v' H3 m3 dv => ?_⟩
    have m13 := m1.trans (m2.trans m3)
    have f := fD.fit
    refine ⟨_, rfl, _, _, dv, dp_mono m13 _ _ dd, f.shaped (by decide), f.shaped (by decide), ?_⟩
    rw [(eqv_iff f.1 f.1).mpr rfl]
    exact q _ m13
  · have due0 : due = .non := by
      rcases hdue with ⟨z, _⟩ | ⟨D', dd, hD', fD, uq⟩
      · exact z
      · exact absurd hD' (hno D')
    subst due0
    refine ⟨true, PySem.W.exm_ref T.xb_PlayError T.xd_PlayError T.xt_PlayError T.sub_sp, fun _ a' na => ?_, fun z => Bool.noConfusion z⟩
    refine ⟨_, rfl, by show 5 ≤ sizeLine; decide, fun t ht => ?_⟩
    have m2 := same_new ht (.tup [V.ref T.C_BadBound, V.ref T.C_BadCall, V.ref T.C_BadPlayer, V.ref T.C_BadText, V.ref T.C_TooLarge])
    have hd2 := m2 _ _ hd
    refine ⟨t, _, _, false, d, _, rfl, rfl, rfl, hd2, upd_same, ?_, T.ki_e, false, rfl, iteF ?_⟩
    · exact .cons (.own _) (.cons (.own _) (.cons (.own _) (.cons (.own _) (.cons (.own _) .nil))))
    refine ⟨_, rfl, _, _, true, d, _, rfl, rfl, rfl, hd2, fun u r => r, T.ki_s, true, rfl, iteF ?_⟩
    have m12 := sm.trans m2
    refine ⟨_, rfl, rfl, _, rfl, iteT2 (by simp) ?_⟩
    refine ⟨_, rfl, rfl, rfl, d, _, _, rfl, hd2, rfl, _, rfl, sa, _, 0, _, rfl, rfl, sqT_mono m12 hsa, atI_nat (j := 0) rfl, rfl, ?_⟩
    rw [show decide (V.str r = V.str r) = true from decide_eq_true rfl]
    exact q _ m12
end
end Toy
set_option Elab.async false
set_option linter.all false
set_option maxRecDepth 100000
set_option maxHeartbeats 8000000
namespace Toy
open PySem L2 NdefX Gm
open Mine hiding same_new
def spTouch (K : PySem.W.Frag) (k d : Nat) : Sp := fun vs H Q _ => ∃ (v : V) (b : Blk), vs = [v] ∧ Dp K H v b.d ∧ blF k d b ∧ k ≤ 6 ∧ b.tot ≤ 700 ∧
  ∀ (t L1 L2 : Addr) (H' : Hp), Same H H' → SqT K H' t [.ref L1, .ref L2] → H L1 = none → H L2 = none → L1 ≠ L2 → H' L1 = some (.lst ((b.tr.map usB).map V.str)) → H' L2 = some (.lst ((b.tw.map usB).map V.str)) → Q (.ref t) H'
def TcI (H : Hp) (a : Addr) (S1 S2 : List (Str × Str)) : L2.St → Hp → Prop := fun σ H' => ∃ (L1 L2 : Addr) (y3 y4 y5 y6 y7 : Option V), σ = [some (.ref a), some (.ref L1), some (.ref L2), y3, y4, y5, y6, y7] ∧ TwL H H' L1 L2 S1 S2
theorem table_len : ("table " : Str).length ≤ 100 := by decide +kernel
theorem variable_len : ("variable " : Str).length ≤ 100 := by decide +kernel
theorem local_len : ("local " : Str).length ≤ 100 := by decide +kernel
theorem lots_len : ("lots " : Str).length ≤ 100 := by decide +kernel
theorem tl_len {S : List (Str × Str)} : ((S.map usB).map V.str).length = S.length := by rw [List.length_map, List.length_map]
theorem us_table (S : List (Str × Str)) (n : Str) : (S.map usB).map V.str ++ [V.str ("table " ++ n)] = ((S ++ ([("table", n)] : List (Str × Str))).map usB).map V.str := by
  rw [← us2, ← us1]
  unfold usB usT
  rw [if_neg (show ¬ ((("table" : Str), n) : Str × Str).1 = "bad" by dsimp only; decide +kernel), show (("table" : Str), n).1 ++ " " = ("table " : Str) from by dsimp only; decide +kernel]
theorem us_variable (S : List (Str × Str)) (n : Str) : (S.map usB).map V.str ++ [V.str ("variable " ++ n)] = ((S ++ ([("variable", n)] : List (Str × Str))).map usB).map V.str := by
  rw [← us2, ← us1]
  unfold usB usT
  rw [if_neg (show ¬ ((("variable" : Str), n) : Str × Str).1 = "bad" by dsimp only; decide +kernel), show (("variable" : Str), n).1 ++ " " = ("variable " : Str) from by dsimp only; decide +kernel]
theorem us_local (S : List (Str × Str)) (n : Str) : (S.map usB).map V.str ++ [V.str ("local " ++ n)] = ((S ++ ([("local", n)] : List (Str × Str))).map usB).map V.str := by
  rw [← us2, ← us1]
  unfold usB usT
  rw [if_neg (show ¬ ((("local" : Str), n) : Str × Str).1 = "bad" by dsimp only; decide +kernel), show (("local" : Str), n).1 ++ " " = ("local " : Str) from by dsimp only; decide +kernel]
theorem us_lots (S : List (Str × Str)) (n : Str) : (S.map usB).map V.str ++ [V.str ("lots " ++ n)] = ((S ++ ([("lots", n)] : List (Str × Str))).map usB).map V.str := by
  rw [← us2, ← us1]
  unfold usB usT
  rw [if_neg (show ¬ ((("lots" : Str), n) : Str × Str).1 = "bad" by dsimp only; decide +kernel), show (("lots" : Str), n).1 ++ " " = ("lots " : Str) from by dsimp only; decide +kernel]
section
variable {P : Program} {w : World} {K : PySem.W.Frag} {mg : Str → Option Value} {base : Heap} {file : Str}
theorem ok_touch_step (T : Txt K mg file) (k d : Nat) (spB : Sp) (G_law_touch : FnOk P w K mg base CX0 (d + k + 2) T.a_law_touch T.fd_law_touch ["block"] spB) (hB : ∀ j, d = j + 1 → ∀ vs H Q E, spTouch K k j vs H Q E → spB vs H Q E) :
    FnOk P w K mg base CX0 (d + k + 3) T.a_law_touch T.fd_law_touch ["block"] (spTouch K k d) := by
  have G_law_uses : FnOk P w K mg base CX0 (k + 1) T.a_law_uses T.fd_law_uses ["expression"] (spUses K k) := ok_uses T k
  refine T.F_law_touch.ok sc_law_touch (fun vs H Q E h => ?_) (fun cdv A outer s H vs Q E hr h => ?_)
  · obtain ⟨v, b, rfl, _⟩ := h
    rfl
  obtain ⟨v, b, rfl, dv, bf, hk, ht, q⟩ := h
  refine ⟨_, (pss_cons (ps_set (i := 1) sc_law_touch.nd rfl (Or.inl rfl) (pe_lst pa_nil))
    (pss_cons (ps_set (i := 2) sc_law_touch.nd rfl (Or.inl rfl) (pe_lst pa_nil))
    (pss_cons (ps_for PassesOwn.never rfl (pi_tup (pv 0)) (pg_name (i := 3) sc_law_touch.nd rfl (Or.inl rfl))
      (pss_cons (ps_set (i := 4) sc_law_touch.nd rfl (Or.inl rfl) (pe_ix ix_tup (pv 3) pe_int (fun _ _ => rfl)))
    (pss_one (ps_if (pt_cmpR op_eq (pv 4) pe_str (nomark _))
      (pss_one (ps_expr (pe_bm PySem.F.plainAttrs_list PySem.F.slot_list_append PySem.F.type_list_append mt_append (pv 2) (pa_cons pe_str pa_nil))))
      (pss_one (ps_if (pt_cmpR op_eq (pv 4) pe_str (nomark _))
      (pss_cons (ps_set (i := 5) sc_law_touch.nd rfl (Or.inl rfl) (pe_call G_law_touch (hr.mono (by omega)) rfl T.g_law_touch T.k_law_touch T.b_law_touch .nil pass0 (pa_cons (pe_ix ix_tup (pv 3) pe_int (fun _ _ => rfl)) pa_nil)))
    (pss_cons (ps_set (i := 1) sc_law_touch.nd rfl (Or.inl rfl) (pe_op op_cat (pe_op op_cat (pv 1) (pe_lst (pa_cons pe_str pa_nil))) (pe_ix ix_tup (pv 5) pe_int (fun _ _ => rfl))))
    (pss_one (ps_set (i := 2) sc_law_touch.nd rfl (Or.inl rfl) (pe_op op_cat (pv 2) (pe_ix ix_tup (pv 5) pe_int (fun _ _ => rfl)))))))
      (pss_one (ps_if (pt_cmpR op_eq (pv 4) pe_str (nomark _))
      (pss_cons (ps_set (i := 6) sc_law_touch.nd rfl (Or.inl rfl) (pe_call G_law_touch (hr.mono (by omega)) rfl T.g_law_touch T.k_law_touch T.b_law_touch .nil pass0 (pa_cons (pe_ix ix_tup (pv 3) pe_int (fun _ _ => rfl)) pa_nil)))
    (pss_cons (ps_set (i := 7) sc_law_touch.nd rfl (Or.inl rfl) (pe_call G_law_touch (hr.mono (by omega)) rfl T.g_law_touch T.k_law_touch T.b_law_touch .nil pass0 (pa_cons (pe_ix ix_tup (pv 3) pe_int (fun _ _ => rfl)) pa_nil)))
    (pss_cons (ps_set (i := 1) sc_law_touch.nd rfl (Or.inl rfl) (pe_op op_cat (pe_op op_cat (pe_op op_cat (pv 1) (pe_call G_law_uses (hr.mono (by omega)) rfl T.g_law_uses T.k_law_uses T.b_law_uses .nil pass0 (pa_cons (pe_ix ix_tup (pv 3) pe_int (fun _ _ => rfl)) pa_nil))) (pe_ix ix_tup (pv 6) pe_int (fun _ _ => rfl))) (pe_ix ix_tup (pv 7) pe_int (fun _ _ => rfl))))
    (pss_one (ps_set (i := 2) sc_law_touch.nd rfl (Or.inl rfl) (pe_op op_cat (pe_op op_cat (pv 2) (pe_ix ix_tup (pv 6) pe_int (fun _ _ => rfl))) (pe_ix ix_tup (pv 7) pe_int (fun _ _ => rfl))))))))
      (pss_one (ps_if (pt_cmpR op_eq (pv 4) pe_str (nomark _))
      (pss_cons (ps_set (i := 1) sc_law_touch.nd rfl (Or.inl rfl) (pe_op op_cat (pe_op op_cat (pv 1) (pe_call G_law_uses (hr.mono (by omega)) rfl T.g_law_uses T.k_law_uses T.b_law_uses .nil pass0 (pa_cons (pe_ix ix_tup (pv 3) pe_int (fun _ _ => rfl)) pa_nil))) (pe_call G_law_uses (hr.mono (by omega)) rfl T.g_law_uses T.k_law_uses T.b_law_uses .nil pass0 (pa_cons (pe_ix ix_tup (pv 3) pe_int (fun _ _ => rfl)) pa_nil))))
    (pss_one (ps_expr (pe_bm PySem.F.plainAttrs_list PySem.F.slot_list_append PySem.F.type_list_append mt_append (pv 2) (pa_cons (pe_op op_add_str pe_str (pe_ix ix_tup (pv 3) pe_int (fun _ _ => rfl))) pa_nil)))))
      (pss_one (ps_if (pt_cmpR op_eq (pv 4) pe_str (nomark _))
      (pss_cons (ps_set (i := 1) sc_law_touch.nd rfl (Or.inl rfl) (pe_op op_cat (pv 1) (pe_call G_law_uses (hr.mono (by omega)) rfl T.g_law_uses T.k_law_uses T.b_law_uses .nil pass0 (pa_cons (pe_ix ix_tup (pv 3) pe_int (fun _ _ => rfl)) pa_nil))))
    (pss_one (ps_expr (pe_bm PySem.F.plainAttrs_list PySem.F.slot_list_append PySem.F.type_list_append mt_append (pv 2) (pa_cons (pe_op op_add_str pe_str (pe_ix ix_tup (pv 3) pe_int (fun _ _ => rfl))) pa_nil)))))
      (pss_cons (ps_expr (pe_bm PySem.F.plainAttrs_list PySem.F.slot_list_append PySem.F.type_list_append mt_append (pv 2) (pa_cons (pe_op op_add_str pe_str (pe_ix ix_tup (pv 3) pe_int (fun _ _ => rfl))) pa_nil)))
    (pss_cons (ps_if (pt_cmpR op_eq (pv 4) pe_str (nomark _))
      (pss_cons (ps_expr (pe_bm PySem.F.plainAttrs_list PySem.F.slot_list_append PySem.F.type_list_append mt_append (pv 2) (pa_cons (pe_op op_add_str pe_str (pe_ix ix_tup (pv 3) pe_int (fun _ _ => rfl))) pa_nil)))
    (pss_one (ps_expr (pe_bm PySem.F.plainAttrs_list PySem.F.slot_list_append PySem.F.type_list_append mt_append (pv 1) (pa_cons (pe_op op_add_str pe_str (pe_ix ix_tup (pv 3) pe_int (fun _ _ => rfl))) pa_nil)))))
      pss_nil)
    (pss_one (ps_if (pt_cmpR op_ne (pv 4) pe_str (nomark _))
      (pss_one (ps_set (i := 1) sc_law_touch.nd rfl (Or.inl rfl) (pe_op op_cat (pv 1) (pe_call G_law_uses (hr.mono (by omega)) rfl T.g_law_uses T.k_law_uses T.b_law_uses .nil pass0 (pa_cons (pe_ix ix_tup (pv 3) (pe_un un_neg pe_int) (fun _ _ => rfl)) pa_nil)))))
      pss_nil))))))))))))))))
    (pss_one (ps_ret (pe_tup (pa_cons (pv 1) (pa_cons (pv 2) pa_nil)))))))), ?_⟩
  have one : (1 : Nat) ≤ sizeLine := by decide
  have zero : (0 : Nat) ≤ sizeLine := by decide
  have two : (2 : Nat) ≤ sizeLine := by decide
  have pw := pow6 hk
  have big : ∀ n : Nat, n ≤ 500000 → n ≤ sizeLine := fun n h => Nat.le_trans h (by decide)
  unfold Blk.d at dv
  obtain ⟨a, xs, rfl, ha, dxs⟩ := dp_inv dv
  rw [Blk.ds_l] at dxs
  have lx : xs.length = b.l.length := (DpAll.len dxs).trans (List.length_map _)
  refine ⟨zero, fun L1 hL1 => ⟨zero, fun L2 hL2 => ?_⟩⟩
  have tl0 : TwL H (upd (upd H L1 (.lst [])) L2 (.lst [])) L1 L2 [] [] := by
    have ne : L2 ≠ L1 := fun e => by rw [e, upd_same] at hL2; cases hL2
    refine ⟨(same_new hL1 _).trans (same_new hL2 _), hL1, ?_, ne.symm, by rw [upd_ne ne.symm, upd_same]; rfl, upd_same⟩
    rw [upd_ne ne] at hL2
    exact hL2
  refine ⟨_, rfl, a, rfl, ⟨_, sqT_mono tl0.s ha⟩, ?_⟩
  refine for_tup (K := K) (a := a) (xs := xs) (fun i σ H' => TcI H a ((b.l.take i).flatMap Stm.tr) ((b.l.take i).flatMap Stm.tw) σ H') ⟨L1, L2, none, none, none, none, none, rfl, tl0⟩ (fun i σ H' _ ⟨_, _, _, _, _, _, _, _, t⟩ => sqT_mono t.s ha) ?_ ?_
  · rintro i x σ H1 hx ⟨L1, L2, y3, y4, y5, y6, y7, rfl, tl⟩
    have hi' := (List.getElem?_eq_some_iff.mp hx).1
    obtain ⟨st, es⟩ : ∃ st, b.l[i]? = some st := ⟨b.l[i]'(lx ▸ hi'), List.getElem?_eq_getElem _⟩
    obtain ⟨x', ex, dst⟩ := DpAll.get dxs (show (b.l.map Stm.d)[i]? = some st.d by rw [List.getElem?_map, es]; rfl)
    rw [hx] at ex
    cases ex
    have hm := List.mem_of_getElem? es
    have fs := blF.l bf st hm
    have ts := blk_tot_at hm
    have dst1 := dp_mono tl.s _ _ dst
    have lr := tr_take pw bf i
    have lw := tw_take b i
    have e1 : (b.l.take (i + 1)).flatMap Stm.tr = (b.l.take i).flatMap Stm.tr ++ st.tr := by
      rw [take_more es, List.flatMap_append, show [st].flatMap Stm.tr = st.tr from by rw [List.flatMap_cons]; exact List.append_nil _]
    have e2 : (b.l.take (i + 1)).flatMap Stm.tw = (b.l.take i).flatMap Stm.tw ++ st.tw := by
      rw [take_more es, List.flatMap_append, show [st].flatMap Stm.tw = st.tw from by rw [List.flatMap_cons]; exact List.append_nil _]
    rw [e1, e2]
    clear e1 e2
    generalize (b.l.take i).flatMap Stm.tr = S1 at tl lr ⊢
    generalize (b.l.take i).flatMap Stm.tw = S2 at tl lw ⊢
    have l1 : S1.length ≤ 90300 := by omega
    have l2 : S2.length ≤ 1400 := by omega
    obtain ⟨xa, rr, rfl, hxa, dr⟩ := stm_inv dst1
    refine ⟨_, rfl, xa, _, 0, _, rfl, rfl, hxa, atI_nat (j := 0) rfl, ?_⟩
    refine ⟨_, rfl, rfl, _, rfl, ?_⟩
    have etw : st.tw = st.wr ++ st.inner.flatMap Blk.tw := by
      unfold Stm.tw
      rw [Stm.all_eq, List.flatMap_cons, List.flatMap_assoc]
      rfl
    cases st with
    | bad =>
      refine iteT2 (decide_eq_true rfl) ?_
      have ew : (Stm.bad).tw = ([("bad", "")] : List (Str × Str)) := by rw [etw]; rfl
      have er : (Stm.bad).tr = [] := by unfold Stm.tr; rfl
      rw [ew, er, List.append_nil]
      exact ⟨_, rfl, .inl ⟨rfl, _, SqL.of tl.l2⟩, L2, _, _, rfl, rfl, tl.l2, Nat.lt_of_le_of_lt (show _ ≤ 1400 by rw [tl_len]; exact l2) (by decide), L1, L2, _, _, _, _, _, rfl, tl.put2 (us2 S2 [("bad", "")])⟩
    | after fa =>
      refine iteF2 (show decide (V.str "after" = V.str "bad") = false by decide +kernel) ⟨_, rfl, rfl, _, rfl, ?_⟩
      refine iteT2 (decide_eq_true rfl) ?_
      obtain ⟨v1, _, rfl, d1, dr1⟩ := dps_cons dr
      obtain ⟨j, f1, rfl⟩ : ∃ j, blF k j fa ∧ d = j + 1 := by
        cases d with
        | zero => unfold stF at fs; exact fs.elim
        | succ d => unfold stF at fs; exact ⟨d, fs.1, rfl⟩
      unfold Stm.tot at ts
      have lt1 := Blk.tr_len pw f1
      have lt2 := Blk.tw_len fa
      have ew : (Stm.after fa).tw = fa.tw := by rw [etw]; show [] ++ ([fa] : List Blk).flatMap Blk.tw = _; rw [List.flatMap_cons, List.flatMap_nil, List.append_nil, List.nil_append]
      have er : (Stm.after fa).tr = ([("bad", "")] : List (Str × Str)) ++ fa.tr := by unfold Stm.tr; rfl
      rw [ew, er]
      refine ⟨_, rfl, xa, _, 1, _, rfl, rfl, hxa, atI_nat (j := 1) rfl, hB j rfl _ _ _ _ ⟨v1, fa, rfl, d1, f1, hk, by omega, fun t M1 M2 H2 m2 htt _ _ _ g1 g2 => ?_⟩⟩
      have tl2 := tl.grow m2
      refine ⟨_, rfl, one, fun q1 hq1 => ?_⟩
      have n1 := same_new hq1 (.lst [V.str "bad"])
      have tl3 := tl2.grow n1
      refine ⟨L1, q1, _, _, rfl, rfl, tl3.l1, upd_same, big _ (by rw [tl_len]; show S1.length + 1 ≤ _; omega), fun q2 hq2 => ?_⟩
      have tl4 := tl3.new1 (Z := S1 ++ ([("bad", "")] : List (Str × Str))) hq2 (us2 S1 [("bad", "")])
      have n2 := n1.trans (same_new hq2 (.lst ((S1.map usB).map V.str ++ [V.str "bad"])))
      refine ⟨_, rfl, t, _, 0, _, rfl, rfl, sqT_mono n2 htt, atI_nat (j := 0) rfl, q2, M1, _, _, rfl, rfl, tl4.l1, n2 _ _ g1, big _ (by rw [tl_len, tl_len, List.length_append, List.length_singleton]; omega), fun q3 hq3 => ?_⟩
      have tl5 := tl4.new1 (Z := S1 ++ ([("bad", "")] : List (Str × Str)) ++ fa.tr) hq3 (us2 (S1 ++ ([("bad", "")] : List (Str × Str))) fa.tr)
      have n3 := n2.trans (same_new hq3 (.lst (((S1 ++ ([("bad", "")] : List (Str × Str))).map usB).map V.str ++ (fa.tr.map usB).map V.str)))
      refine ⟨_, rfl, _, rfl, t, _, 1, _, rfl, rfl, sqT_mono n3 htt, atI_nat (j := 1) rfl, L2, M2, _, _, rfl, rfl, tl5.l2, n3 _ _ g2, big _ (by rw [tl_len, tl_len]; omega), fun q4 hq4 => ?_⟩
      rw [← List.append_assoc]
      exact ⟨q3, q4, _, _, _, _, _, rfl, tl5.new2 hq4 (us2 S2 fa.tw)⟩
    | ite te fa fb =>
      refine iteF2 (show decide (V.str "if" = V.str "bad") = false by decide +kernel) ⟨_, rfl, rfl, _, rfl, ?_⟩
      refine iteF2 (show decide (V.str "if" = V.str "after") = false by decide +kernel) ⟨_, rfl, rfl, _, rfl, ?_⟩
      refine iteT2 (decide_eq_true rfl) ?_
      obtain ⟨v1, _, rfl, d1, dr1⟩ := dps_cons dr
      obtain ⟨v2, _, rfl, d2, dr2⟩ := dps_cons dr1
      obtain ⟨v3, _, rfl, d3, dr3⟩ := dps_cons dr2
      obtain ⟨j, fe, f1, f2, rfl⟩ : ∃ j, exF k te ∧ blF k j fa ∧ blF k j fb ∧ d = j + 1 := by
        cases d with
        | zero => unfold stF at fs; exact fs.elim
        | succ d => unfold stF at fs; exact ⟨d, fs.1, fs.2.1, fs.2.2.1, rfl⟩
      unfold Stm.tot at ts
      have lt1 := Blk.tr_len pw f1
      have lt2 := Blk.tw_len fa
      have lt3 := Blk.tr_len pw f2
      have lt4 := Blk.tw_len fb
      have lt5 := reads_len2 fe
      have ew : (Stm.ite te fa fb).tw = fa.tw ++ fb.tw := by rw [etw]; show [] ++ ([fa, fb] : List Blk).flatMap Blk.tw = _; rw [List.flatMap_cons, List.flatMap_cons, List.flatMap_nil, List.append_nil, List.nil_append]
      have er : (Stm.ite te fa fb).tr = te.reads ++ fa.tr ++ fb.tr := by unfold Stm.tr; rfl
      rw [ew, er]
      refine ⟨_, rfl, xa, _, 2, _, rfl, rfl, hxa, atI_nat (j := 2) rfl, hB j rfl _ _ _ _ ⟨v2, fa, rfl, d2, f1, hk, by omega, fun t M1 M2 H2 m2 htt _ _ _ g1 g2 => ?_⟩⟩
      refine ⟨_, rfl, xa, _, 3, _, rfl, rfl, sqT_mono m2 hxa, atI_nat (j := 3) rfl, hB j rfl _ _ _ _ ⟨v3, fb, rfl, dp_mono m2 _ _ d3, f2, hk, by omega, fun t' N1 N2 H3 m3 htt' _ _ _ g3 g4 => ?_⟩⟩
      have m23 := m2.trans m3
      have htt := sqT_mono m3 htt
      have g1 := m3 _ _ g1
      have g2 := m3 _ _ g2
      refine ⟨_, rfl, _, rfl, xa, _, 1, _, rfl, rfl, sqT_mono m23 hxa, atI_nat (j := 1) rfl, v1, te, rfl, dp_mono m23 _ _ d1, fe, by omega, fun q1 H4 _ m4 hq1 => ?_⟩
      rw [us_reads] at hq1
      have tl4 := tl.grow (m23.trans m4)
      refine ⟨L1, q1, _, _, rfl, rfl, tl4.l1, hq1, big _ (by rw [tl_len, tl_len]; omega), fun q2 hq2 => ?_⟩
      have tl5 := tl4.new1 (Z := S1 ++ te.reads) hq2 (us2 S1 te.reads)
      have n2 := m4.trans (same_new hq2 (.lst ((S1.map usB).map V.str ++ (te.reads.map usB).map V.str)))
      refine ⟨_, rfl, t, _, 0, _, rfl, rfl, sqT_mono n2 htt, atI_nat (j := 0) rfl, q2, M1, _, _, rfl, rfl, tl5.l1, n2 _ _ g1, big _ (by rw [tl_len, tl_len, List.length_append]; omega), fun q3 hq3 => ?_⟩
      have tl6 := tl5.new1 (Z := S1 ++ te.reads ++ fa.tr) hq3 (us2 (S1 ++ te.reads) fa.tr)
      have n3 := n2.trans (same_new hq3 (.lst (((S1 ++ te.reads).map usB).map V.str ++ (fa.tr.map usB).map V.str)))
      refine ⟨_, rfl, t', _, 0, _, rfl, rfl, sqT_mono n3 htt', atI_nat (j := 0) rfl, q3, N1, _, _, rfl, rfl, tl6.l1, n3 _ _ g3, big _ (by rw [tl_len, tl_len, List.length_append, List.length_append]; omega), fun q4 hq4 => ?_⟩
      have tl7 := tl6.new1 (Z := S1 ++ te.reads ++ fa.tr ++ fb.tr) hq4 (us2 (S1 ++ te.reads ++ fa.tr) fb.tr)
      have n4 := n3.trans (same_new hq4 (.lst (((S1 ++ te.reads ++ fa.tr).map usB).map V.str ++ (fb.tr.map usB).map V.str)))
      refine ⟨_, rfl, _, rfl, t, _, 1, _, rfl, rfl, sqT_mono n4 htt, atI_nat (j := 1) rfl, L2, M2, _, _, rfl, rfl, tl7.l2, n4 _ _ g2, big _ (by rw [tl_len, tl_len]; omega), fun q5 hq5 => ?_⟩
      have tl8 := tl7.new2 (Z := S2 ++ fa.tw) hq5 (us2 S2 fa.tw)
      have n5 := n4.trans (same_new hq5 (.lst ((S2.map usB).map V.str ++ (fa.tw.map usB).map V.str)))
      refine ⟨_, rfl, t', _, 1, _, rfl, rfl, sqT_mono n5 htt', atI_nat (j := 1) rfl, q5, N2, _, _, rfl, rfl, tl8.l2, n5 _ _ g4, big _ (by rw [tl_len, tl_len, List.length_append]; omega), fun q6 hq6 => ?_⟩
      rw [show S1 ++ (te.reads ++ fa.tr ++ fb.tr) = S1 ++ te.reads ++ fa.tr ++ fb.tr from by simp only [List.append_assoc], show S2 ++ (fa.tw ++ fb.tw) = S2 ++ fa.tw ++ fb.tw from by simp only [List.append_assoc]]
      exact ⟨q4, q6, _, _, _, _, _, rfl, tl8.new2 hq6 (us2 (S2 ++ fa.tw) fb.tw)⟩
    | put tn e f =>
      refine iteF2 (show decide (V.str "put" = V.str "bad") = false by decide +kernel) ⟨_, rfl, rfl, _, rfl, ?_⟩
      refine iteF2 (show decide (V.str "put" = V.str "after") = false by decide +kernel) ⟨_, rfl, rfl, _, rfl, ?_⟩
      refine iteF2 (show decide (V.str "put" = V.str "if") = false by decide +kernel) ⟨_, rfl, rfl, _, rfl, ?_⟩
      refine iteT2 (decide_eq_true rfl) ?_
      obtain ⟨v1, _, rfl, d1, dr1⟩ := dps_cons dr
      obtain ⟨v2, _, rfl, d2, dr2⟩ := dps_cons dr1
      obtain ⟨v3, _, rfl, d3, dr3⟩ := dps_cons dr2
      have es1 := dp_s d1
      subst es1
      unfold stF at fs
      have nm := nm_len fs.1
      have kl := table_len
      have le := reads_len2 fs.2.1
      have lf := reads_len2 fs.2.2
      have ew : (Stm.put tn e f).tw = ([("table", tn)] : List (Str × Str)) := by rw [etw]; rfl
      have er : (Stm.put tn e f).tr = e.reads ++ f.reads := by unfold Stm.tr; rfl
      rw [ew, er]
      refine ⟨_, rfl, _, rfl, xa, _, 2, _, rfl, rfl, hxa, atI_nat (j := 2) rfl, v2, e, rfl, d2, fs.2.1, by omega, fun q1 H2 _ m2 hq1 => ?_⟩
      rw [us_reads] at hq1
      have tl2 := tl.grow m2
      refine ⟨L1, q1, _, _, rfl, rfl, tl2.l1, hq1, big _ (by rw [tl_len, tl_len]; omega), fun q2 hq2 => ?_⟩
      have tl3 := tl2.new1 (Z := S1 ++ e.reads) hq2 (us2 S1 e.reads)
      have n2 := m2.trans (same_new hq2 (.lst ((S1.map usB).map V.str ++ (e.reads.map usB).map V.str)))
      refine ⟨_, rfl, xa, _, 3, _, rfl, rfl, sqT_mono n2 hxa, atI_nat (j := 3) rfl, v3, f, rfl, dp_mono n2 _ _ d3, fs.2.2, by omega, fun q3 H3 _ m3 hq3 => ?_⟩
      rw [us_reads] at hq3
      have tl4 := tl3.grow m3
      refine ⟨q2, q3, _, _, rfl, rfl, tl4.l1, hq3, big _ (by rw [tl_len, tl_len, List.length_append]; omega), fun q4 hq4 => ?_⟩
      have tl5 := tl4.new1 (Z := S1 ++ e.reads ++ f.reads) hq4 (us2 (S1 ++ e.reads) f.reads)
      have n4 := n2.trans (m3.trans (same_new hq4 (.lst (((S1 ++ e.reads).map usB).map V.str ++ (f.reads.map usB).map V.str))))
      rw [← List.append_assoc]
      exact ⟨_, rfl, .inl ⟨rfl, _, SqL.of tl5.l2⟩, _, rfl, xa, _, 1, _, rfl, rfl, sqT_mono n4 hxa, atI_nat (j := 1) rfl, _, _, rfl, rfl, big _ (by omega), L2, _, _, rfl, rfl, tl5.l2, Nat.lt_of_le_of_lt (show _ ≤ 1400 by rw [tl_len]; exact l2) (by decide), q4, L2, _, _, _, _, _, rfl, tl5.put2 (us_table S2 tn)⟩
    | set y e =>
      refine iteF2 (show decide (V.str "set" = V.str "bad") = false by decide +kernel) ⟨_, rfl, rfl, _, rfl, ?_⟩
      refine iteF2 (show decide (V.str "set" = V.str "after") = false by decide +kernel) ⟨_, rfl, rfl, _, rfl, ?_⟩
      refine iteF2 (show decide (V.str "set" = V.str "if") = false by decide +kernel) ⟨_, rfl, rfl, _, rfl, ?_⟩
      refine iteF2 (show decide (V.str "set" = V.str "put") = false by decide +kernel) ⟨_, rfl, rfl, _, rfl, ?_⟩
      refine iteT2 (decide_eq_true rfl) ?_
      obtain ⟨v1, _, rfl, d1, dr1⟩ := dps_cons dr
      obtain ⟨v2, _, rfl, d2, dr2⟩ := dps_cons dr1
      have es1 := dp_s d1
      subst es1
      unfold stF at fs
      have nm := nm_len fs.1
      have kl := variable_len
      have le := reads_len2 fs.2
      have ew : (Stm.set y e).tw = ([("variable", y)] : List (Str × Str)) := by rw [etw]; rfl
      have er : (Stm.set y e).tr = e.reads := by unfold Stm.tr; rfl
      rw [ew, er]
      refine ⟨_, rfl, _, rfl, xa, _, 2, _, rfl, rfl, hxa, atI_nat (j := 2) rfl, v2, e, rfl, d2, fs.2, by omega, fun q1 H2 _ m2 hq1 => ?_⟩
      rw [us_reads] at hq1
      have tl2 := tl.grow m2
      refine ⟨L1, q1, _, _, rfl, rfl, tl2.l1, hq1, big _ (by rw [tl_len, tl_len]; omega), fun q2 hq2 => ?_⟩
      have tl5 := tl2.new1 (Z := S1 ++ e.reads) hq2 (us2 S1 e.reads)
      have n4 := m2.trans (same_new hq2 (.lst ((S1.map usB).map V.str ++ (e.reads.map usB).map V.str)))
      exact ⟨_, rfl, .inl ⟨rfl, _, SqL.of tl5.l2⟩, _, rfl, xa, _, 1, _, rfl, rfl, sqT_mono n4 hxa, atI_nat (j := 1) rfl, _, _, rfl, rfl, big _ (by omega), L2, _, _, rfl, rfl, tl5.l2, Nat.lt_of_le_of_lt (show _ ≤ 1400 by rw [tl_len]; exact l2) (by decide), q2, L2, _, _, _, _, _, rfl, tl5.put2 (us_variable S2 y)⟩
    | lt y e =>
      refine iteF2 (show decide (V.str "let" = V.str "bad") = false by decide +kernel) ⟨_, rfl, rfl, _, rfl, ?_⟩
      refine iteF2 (show decide (V.str "let" = V.str "after") = false by decide +kernel) ⟨_, rfl, rfl, _, rfl, ?_⟩
      refine iteF2 (show decide (V.str "let" = V.str "if") = false by decide +kernel) ⟨_, rfl, rfl, _, rfl, ?_⟩
      refine iteF2 (show decide (V.str "let" = V.str "put") = false by decide +kernel) ⟨_, rfl, rfl, _, rfl, ?_⟩
      refine iteF2 (show decide (V.str "let" = V.str "set") = false by decide +kernel) ?_
      obtain ⟨v1, _, rfl, d1, dr1⟩ := dps_cons dr
      obtain ⟨v2, _, rfl, d2, dr2⟩ := dps_cons dr1
      have e0 := dps_nil dr2
      subst e0
      have es1 := dp_s d1
      subst es1
      unfold stF at fs
      have nm := nm_len fs.1
      have kl := local_len
      have le := reads_len2 fs.2
      have ew : (Stm.lt y e).tw = ([("local", y)] : List (Str × Str)) := by rw [etw]; rfl
      have er : (Stm.lt y e).tr = e.reads := by unfold Stm.tr; rfl
      rw [ew, er]
      refine ⟨_, rfl, .inl ⟨rfl, _, SqL.of tl.l2⟩, _, rfl, xa, _, 1, _, rfl, rfl, hxa, atI_nat (j := 1) rfl, _, _, rfl, rfl, big _ (by omega), L2, _, _, rfl, rfl, tl.l2, Nat.lt_of_le_of_lt (show _ ≤ 1400 by rw [tl_len]; exact l2) (by decide), ?_⟩
      have tl2 := tl.put2 (Z := S2 ++ ([("local", y)] : List (Str × Str))) (us_local S2 y)
      have tt := Tups.lst (o := .lst ((S2.map usB).map V.str ++ [V.str ("local " ++ y)])) tl.l2
      have hxa := sqT_tups tt hxa
      have d2 := dp_tups tt _ _ (Ex.nol _) d2
      clear tt tl
      revert tl2 hxa d2
      generalize upd H1 L2 (.lst ((S2.map usB).map V.str ++ [V.str ("local " ++ y)])) = H2
      intro tl2 hxa d2
      refine ⟨_, rfl, rfl, _, rfl, ?_⟩
      refine iteF2 (show decide (V.str "let" = V.str "lot") = false by decide +kernel) ⟨_, rfl, rfl, _, rfl, ?_⟩
      refine iteT2 (show (!decide (V.str "let" = V.str "draw")) = true by decide +kernel) ?_
      refine ⟨_, rfl, _, rfl, _, rfl, xa, _, -1, _, rfl, rfl, hxa, rfl, v2, e, rfl, d2, fs.2, by omega, fun q1 H5 _ m5 hq1 => ?_⟩
      rw [us_reads] at hq1
      have tl5 := tl2.grow m5
      refine ⟨L1, q1, _, _, rfl, rfl, tl5.l1, hq1, big _ (by rw [tl_len, tl_len]; omega), fun q2 hq2 => ?_⟩
      exact ⟨q2, L2, _, _, _, _, _, rfl, tl5.new1 hq2 (us2 S1 e.reads)⟩
    | draw y e =>
      refine iteF2 (show decide (V.str "draw" = V.str "bad") = false by decide +kernel) ⟨_, rfl, rfl, _, rfl, ?_⟩
      refine iteF2 (show decide (V.str "draw" = V.str "after") = false by decide +kernel) ⟨_, rfl, rfl, _, rfl, ?_⟩
      refine iteF2 (show decide (V.str "draw" = V.str "if") = false by decide +kernel) ⟨_, rfl, rfl, _, rfl, ?_⟩
      refine iteF2 (show decide (V.str "draw" = V.str "put") = false by decide +kernel) ⟨_, rfl, rfl, _, rfl, ?_⟩
      refine iteF2 (show decide (V.str "draw" = V.str "set") = false by decide +kernel) ?_
      obtain ⟨v1, _, rfl, d1, dr1⟩ := dps_cons dr
      obtain ⟨v2, _, rfl, d2, dr2⟩ := dps_cons dr1
      have e0 := dps_nil dr2
      subst e0
      have es1 := dp_s d1
      subst es1
      unfold stF at fs
      have nm := nm_len fs.1
      have kl := local_len
      have ew : (Stm.draw y e).tw = ([("local", y)] : List (Str × Str)) := by rw [etw]; rfl
      have er : (Stm.draw y e).tr = [] := by unfold Stm.tr; rfl
      rw [ew, er]
      refine ⟨_, rfl, .inl ⟨rfl, _, SqL.of tl.l2⟩, _, rfl, xa, _, 1, _, rfl, rfl, hxa, atI_nat (j := 1) rfl, _, _, rfl, rfl, big _ (by omega), L2, _, _, rfl, rfl, tl.l2, Nat.lt_of_le_of_lt (show _ ≤ 1400 by rw [tl_len]; exact l2) (by decide), ?_⟩
      have tl2 := tl.put2 (Z := S2 ++ ([("local", y)] : List (Str × Str))) (us_local S2 y)
      have tt := Tups.lst (o := .lst ((S2.map usB).map V.str ++ [V.str ("local " ++ y)])) tl.l2
      have hxa := sqT_tups tt hxa
      clear tt tl
      revert tl2 hxa
      generalize upd H1 L2 (.lst ((S2.map usB).map V.str ++ [V.str ("local " ++ y)])) = H2
      intro tl2 hxa
      refine ⟨_, rfl, rfl, _, rfl, ?_⟩
      refine iteF2 (show decide (V.str "draw" = V.str "lot") = false by decide +kernel) ⟨_, rfl, rfl, _, rfl, ?_⟩
      refine iteF2 (show (!decide (V.str "draw" = V.str "draw")) = false by decide +kernel) ?_
      rw [List.append_nil]
      exact ⟨L1, L2, _, _, _, _, _, rfl, tl2⟩
    | ask y o e =>
      refine iteF2 (show decide (V.str "ask" = V.str "bad") = false by decide +kernel) ⟨_, rfl, rfl, _, rfl, ?_⟩
      refine iteF2 (show decide (V.str "ask" = V.str "after") = false by decide +kernel) ⟨_, rfl, rfl, _, rfl, ?_⟩
      refine iteF2 (show decide (V.str "ask" = V.str "if") = false by decide +kernel) ⟨_, rfl, rfl, _, rfl, ?_⟩
      refine iteF2 (show decide (V.str "ask" = V.str "put") = false by decide +kernel) ⟨_, rfl, rfl, _, rfl, ?_⟩
      refine iteF2 (show decide (V.str "ask" = V.str "set") = false by decide +kernel) ?_
      obtain ⟨v1, _, rfl, d1, dr1⟩ := dps_cons dr
      obtain ⟨v2, _, rfl, d2, dr2⟩ := dps_cons dr1
      obtain ⟨v3, _, rfl, d3, dr3⟩ := dps_cons dr2
      have e0 := dps_nil dr3
      subst e0
      have es1 := dp_s d1
      subst es1
      have es2 := dp_s d2
      subst es2
      unfold stF at fs
      have nm := nm_len fs.1
      have kl := local_len
      have le := reads_len2 fs.2.2
      have ew : (Stm.ask y o e).tw = ([("local", y)] : List (Str × Str)) := by rw [etw]; rfl
      have er : (Stm.ask y o e).tr = e.reads := by unfold Stm.tr; rfl
      rw [ew, er]
      refine ⟨_, rfl, .inl ⟨rfl, _, SqL.of tl.l2⟩, _, rfl, xa, _, 1, _, rfl, rfl, hxa, atI_nat (j := 1) rfl, _, _, rfl, rfl, big _ (by omega), L2, _, _, rfl, rfl, tl.l2, Nat.lt_of_le_of_lt (show _ ≤ 1400 by rw [tl_len]; exact l2) (by decide), ?_⟩
      have tl2 := tl.put2 (Z := S2 ++ ([("local", y)] : List (Str × Str))) (us_local S2 y)
      have tt := Tups.lst (o := .lst ((S2.map usB).map V.str ++ [V.str ("local " ++ y)])) tl.l2
      have hxa := sqT_tups tt hxa
      have d3 := dp_tups tt _ _ (Ex.nol _) d3
      clear tt tl
      revert tl2 hxa d3
      generalize upd H1 L2 (.lst ((S2.map usB).map V.str ++ [V.str ("local " ++ y)])) = H2
      intro tl2 hxa d3
      refine ⟨_, rfl, rfl, _, rfl, ?_⟩
      refine iteF2 (show decide (V.str "ask" = V.str "lot") = false by decide +kernel) ⟨_, rfl, rfl, _, rfl, ?_⟩
      refine iteT2 (show (!decide (V.str "ask" = V.str "draw")) = true by decide +kernel) ?_
      refine ⟨_, rfl, _, rfl, _, rfl, xa, _, -1, _, rfl, rfl, hxa, rfl, v3, e, rfl, d3, fs.2.2, by omega, fun q1 H5 _ m5 hq1 => ?_⟩
      rw [us_reads] at hq1
      have tl5 := tl2.grow m5
      refine ⟨L1, q1, _, _, rfl, rfl, tl5.l1, hq1, big _ (by rw [tl_len, tl_len]; omega), fun q2 hq2 => ?_⟩
      exact ⟨q2, L2, _, _, _, _, _, rfl, tl5.new1 hq2 (us2 S1 e.reads)⟩
    | lot y o e =>
      refine iteF2 (show decide (V.str "lot" = V.str "bad") = false by decide +kernel) ⟨_, rfl, rfl, _, rfl, ?_⟩
      refine iteF2 (show decide (V.str "lot" = V.str "after") = false by decide +kernel) ⟨_, rfl, rfl, _, rfl, ?_⟩
      refine iteF2 (show decide (V.str "lot" = V.str "if") = false by decide +kernel) ⟨_, rfl, rfl, _, rfl, ?_⟩
      refine iteF2 (show decide (V.str "lot" = V.str "put") = false by decide +kernel) ⟨_, rfl, rfl, _, rfl, ?_⟩
      refine iteF2 (show decide (V.str "lot" = V.str "set") = false by decide +kernel) ?_
      obtain ⟨v1, _, rfl, d1, dr1⟩ := dps_cons dr
      obtain ⟨v2, _, rfl, d2, dr2⟩ := dps_cons dr1
      obtain ⟨v3, _, rfl, d3, dr3⟩ := dps_cons dr2
      have e0 := dps_nil dr3
      subst e0
      have es1 := dp_s d1
      subst es1
      have es2 := dp_s d2
      subst es2
      unfold stF at fs
      have nm := nm_len fs.1
      have kl := local_len
      have le := reads_len2 fs.2.2
      have ew : (Stm.lot y o e).tw = ([("local", y), ("lots", o)] : List (Str × Str)) := by rw [etw]; rfl
      have er : (Stm.lot y o e).tr = ([("lots", o)] : List (Str × Str)) ++ e.reads := by unfold Stm.tr; rfl
      rw [ew, er]
      refine ⟨_, rfl, .inl ⟨rfl, _, SqL.of tl.l2⟩, _, rfl, xa, _, 1, _, rfl, rfl, hxa, atI_nat (j := 1) rfl, _, _, rfl, rfl, big _ (by omega), L2, _, _, rfl, rfl, tl.l2, Nat.lt_of_le_of_lt (show _ ≤ 1400 by rw [tl_len]; exact l2) (by decide), ?_⟩
      have tl2 := tl.put2 (Z := S2 ++ ([("local", y)] : List (Str × Str))) (us_local S2 y)
      have tt := Tups.lst (o := .lst ((S2.map usB).map V.str ++ [V.str ("local " ++ y)])) tl.l2
      have hxa := sqT_tups tt hxa
      have d3 := dp_tups tt _ _ (Ex.nol _) d3
      clear tt tl
      revert tl2 hxa d3
      generalize upd H1 L2 (.lst ((S2.map usB).map V.str ++ [V.str ("local " ++ y)])) = H2
      intro tl2 hxa d3
      refine ⟨_, rfl, rfl, _, rfl, ?_⟩
      have nm2 := nm_len fs.2.1
      have kl2 := lots_len
      refine iteT2 (decide_eq_true rfl) ?_
      refine ⟨_, rfl, .inl ⟨rfl, _, SqL.of tl2.l2⟩, _, rfl, xa, _, 2, _, rfl, rfl, hxa, atI_nat (j := 2) rfl, _, _, rfl, rfl, big _ (by omega), L2, _, _, rfl, rfl, tl2.l2, Nat.lt_of_le_of_lt (show _ ≤ 1401 by rw [tl_len, List.length_append, List.length_singleton]; omega) (by decide), ?_⟩
      have tl3 := tl2.put2 (Z := S2 ++ ([("local", y)] : List (Str × Str)) ++ ([("lots", o)] : List (Str × Str))) (us_lots _ o)
      have tt := Tups.lst (o := .lst (((S2 ++ ([("local", y)] : List (Str × Str))).map usB).map V.str ++ [V.str ("lots " ++ o)])) tl2.l2
      have hxa := sqT_tups tt hxa
      have d3 := dp_tups tt _ _ (Ex.nol _) d3
      clear tt tl2
      revert tl3 hxa d3
      generalize upd H2 L2 (.lst (((S2 ++ ([("local", y)] : List (Str × Str))).map usB).map V.str ++ [V.str ("lots " ++ o)])) = H3
      intro tl3 hxa d3
      refine ⟨_, rfl, .inl ⟨rfl, _, SqL.of tl3.l1⟩, _, rfl, xa, _, 2, _, rfl, rfl, hxa, atI_nat (j := 2) rfl, _, _, rfl, rfl, big _ (by omega), L1, _, _, rfl, rfl, tl3.l1, Nat.lt_of_le_of_lt (show _ ≤ 90300 by rw [tl_len]; exact l1) (by decide), ?_⟩
      have tl4 := tl3.put1 (Z := S1 ++ ([("lots", o)] : List (Str × Str))) (us_lots S1 o)
      have tt := Tups.lst (o := .lst ((S1.map usB).map V.str ++ [V.str ("lots " ++ o)])) tl3.l1
      have hxa := sqT_tups tt hxa
      have d3 := dp_tups tt _ _ (Ex.nol _) d3
      clear tt tl3
      revert tl4 hxa d3
      generalize upd H3 L1 (.lst ((S1.map usB).map V.str ++ [V.str ("lots " ++ o)])) = H4
      intro tl4 hxa d3
      refine ⟨_, rfl, rfl, _, rfl, ?_⟩
      refine iteT2 (show (!decide (V.str "lot" = V.str "draw")) = true by decide +kernel) ?_
      refine ⟨_, rfl, _, rfl, _, rfl, xa, _, -1, _, rfl, rfl, hxa, rfl, v3, e, rfl, d3, fs.2.2, by omega, fun q1 H5 _ m5 hq1 => ?_⟩
      rw [us_reads] at hq1
      have tl5 := tl4.grow m5
      refine ⟨L1, q1, _, _, rfl, rfl, tl5.l1, hq1, big _ (by rw [tl_len, tl_len, List.length_append, List.length_singleton]; omega), fun q2 hq2 => ?_⟩
      have e3 : S2 ++ ([("local", y), ("lots", o)] : List (Str × Str)) = S2 ++ ([("local", y)] : List (Str × Str)) ++ ([("lots", o)] : List (Str × Str)) := by rw [List.append_assoc]; rfl
      rw [e3, ← List.append_assoc]
      exact ⟨q2, L2, _, _, _, _, _, rfl, tl5.new1 hq2 (us2 (S1 ++ ([("lots", o)] : List (Str × Str))) e.reads)⟩
  · rintro σ H1 ⟨L1, L2, y3, y4, y5, y6, y7, rfl, tl⟩
    rw [lx, List.take_length, ← Blk.tr_l, ← Blk.tw_l] at tl
    refine ⟨_, rfl, _, rfl, two, fun t ht => ?_⟩
    have m := same_new ht (.tup [V.ref L1, .ref L2])
    exact q t L1 L2 _ (tl.s.trans m) (SqT.of upd_same) tl.f1 tl.f2 tl.ne (m _ _ tl.l1) (m _ _ tl.l2)
theorem ok_touch (T : Txt K mg file) (k : Nat) : ∀ d : Nat, FnOk P w K mg base CX0 (d + k + 3) T.a_law_touch T.fd_law_touch ["block"] (spTouch K k d)
  | 0 => ok_touch_step T k 0 (fun _ _ _ _ => False) ⟨fun _ _ _ _ h => h.elim, fun _ _ _ _ _ _ _ _ _ _ _ _ _ h => h.elim⟩ (fun j h => absurd h (by omega))
  | d + 1 => ok_touch_step T k (d + 1) _ ((ok_touch T k d).mono (by omega)) (fun j h vs H Q E q => by
      obtain rfl : d = j := by omega
      exact q)
end
end Toy
set_option Elab.async false
set_option linter.all false
set_option maxRecDepth 100000
set_option maxHeartbeats 8000000
namespace Toy
open PySem L2 NdefX Gm
open Mine hiding same_new
def spLProc (K : PySem.W.Frag) : Sp := fun vs H Q _ => ∃ (v : V) (n : Str) (G : Ga), vs = [v, .str n] ∧ Dp K H v G.d ∧ (∀ p, G.proc n = some p → ∀ u, Dp K H u p.d → Q u H) ∧ (G.proc n = none → Q .non H)
def spLSwap (K : PySem.W.Frag) : Sp := fun vs H Q _ => ∃ (v : V) (G : Ga) (n : Str) (i : Int), vs = [v, .str n, .int i] ∧ Dp K H v G.d ∧ SG G ∧ ∀ (u : V) (H' : Hp), Same H H' → DueOk K H' u G "swap" [.str n, .int i] → Q u H'
def spLDrop (K : PySem.W.Frag) : Sp := fun vs H Q _ => ∃ (v : V) (G : Ga) (n : Str) (i : Int), vs = [v, .str n, .int i] ∧ Dp K H v G.d ∧ SG G ∧ ∀ (u : V) (H' : Hp), Same H H' → DueOk K H' u G "drop" [.str n, .int i] → Q u H'
theorem one_cut {α : Type} {l : List α} {j : Nat} {x : α} (h : l[j]? = some x) : (l.take (j + 1)).drop j = [x] := by
  rw [take_more h]
  have hl : (l.take j).length = j := by
    have := (List.getElem?_eq_some_iff.mp h).1
    rw [List.length_take]
    omega
  rw [List.drop_append, hl, Nat.sub_self, List.drop_of_length_le (by omega)]
  rfl
theorem tr_1 (s : Stm) : (Blk.of [s]).tr = s.tr := by rw [Blk.tr_l, Blk.l_of, List.flatMap_cons]; exact List.append_nil _
theorem tw_1 (s : Stm) : (Blk.of [s]).tw = s.tw := by rw [Blk.tw_l, Blk.l_of, List.flatMap_cons]; exact List.append_nil _
theorem pl_trs {N : List (Str × Str)} {s : Stm} (h : s.Pl N) : ∀ p ∈ s.tr, p ∈ N := fun p hp => pl_tr h p ((Stm.tr_mem p s).mp hp)
section
variable {P : Program} {w : World} {K : PySem.W.Frag} {mg : Str → Option Value} {base : Heap} {file : Str}
theorem ok_lproc (T : Txt K mg file) : FnOk P w K mg base CX0 1 T.a_law_proc T.fd_law_proc ["game", "name"] (spLProc K) := by
  refine T.F_law_proc.ok sc_law_proc (fun vs H Q E h => ?_) (fun cdv A outer s H vs Q E hr h => ?_)
  · obtain ⟨v, n, G, rfl, _⟩ := h
    rfl
  obtain ⟨v, n, G, rfl, dv, k1, k0⟩ := h
  obtain ⟨a, u1, u2, u3, pa, xs, rfl, ha, _, _, _, hpa, dxs⟩ := ga_inv dv
  have lx : xs.length = G.procs.length := (DpAll.len dxs).trans (List.length_map _)
  refine ⟨_, (pss_cons (ps_for PassesOwn.never rfl (pi_tup (pe_ix ix_tup (pv 0) pe_int (fun _ _ => rfl))) (pg_name (i := 2) sc_law_proc.nd rfl (Or.inl rfl))
      (pss_one (ps_if (pt_cmpR op_eq (pe_ix ix_tup (pv 2) pe_int (fun _ _ => rfl)) (pv 1) (nomark _))
      (pss_one (ps_ret (pv 2)))
      pss_nil)))
    (pss_one (ps_ret pe_non))), ?_⟩
  refine ⟨_, rfl, a, _, 3, _, rfl, rfl, ha, atI_nat (j := 3) rfl, pa, rfl, ⟨_, hpa⟩, ?_⟩
  refine for_tup (K := K) (a := pa) (xs := xs) (fun i σ H' => H' = H ∧ (∃ y, σ = [some (.ref a), some (.str n), y]) ∧ ∀ q ∈ G.procs.take i, q.name ≠ n) ⟨rfl, ⟨none, rfl⟩, by simp⟩ (fun i σ H' _ h => by rw [h.1]; exact hpa) ?_ ?_
  · rintro i v σ H' hv ⟨rfl, ⟨y, rfl⟩, hn⟩
    have hi := (List.getElem?_eq_some_iff.mp hv).1
    obtain ⟨p, ep⟩ : ∃ p, G.procs[i]? = some p := ⟨G.procs[i]'(lx ▸ hi), List.getElem?_eq_getElem _⟩
    obtain ⟨v', ev, dv⟩ := DpAll.get dxs (show (G.procs.map Pr.d)[i]? = some p.d by rw [List.getElem?_map, ep]; rfl)
    rw [hv] at ev
    cases ev
    have dv0 := dv
    obtain ⟨t, la, ba, r, bs, rfl, ht, _⟩ := pr_inv dv
    refine ⟨_, rfl, t, _, 0, V.str p.name, rfl, rfl, ht, atI_nat (j := 0) rfl, _, rfl, rfl, _, rfl, ite2 (fun z => ?_) (fun z => ?_)⟩
    · have z' : p.name = n := V.str.inj (of_decide_eq_true z)
      exact ⟨_, rfl, k1 p (find_at hn ep z') _ dv0⟩
    · have z' : ¬ p.name = n := fun y => z (decide_eq_true (congrArg V.str y))
      refine ⟨rfl, ⟨_, rfl⟩, ?_⟩
      rw [take_more ep]
      intro q hq
      rcases List.mem_append.mp hq with hq | hq
      · exact hn q hq
      · rw [List.mem_singleton.mp hq]
        exact z'
  · rintro σ H' ⟨rfl, ⟨y, rfl⟩, hn⟩
    rw [lx, List.take_length] at hn
    exact k0 (find_no hn)
theorem ok_lswap (T : Txt K mg file) : FnOk P w K mg base CX0 14 T.a_law_swapped T.fd_law_swapped ["game", "name", "at"] (spLSwap K) := by
  have G_law_proc : FnOk P w K mg base CX0 1 T.a_law_proc T.fd_law_proc ["game", "name"] (spLProc K) := ok_lproc T
  have G_law_with : FnOk P w K mg base CX0 1 T.a_law_with T.fd_law_with ["game", "name", "block", "names"] (spWithB K) := ok_withB T
  have G_law_touch : FnOk P w K mg base CX0 13 T.a_law_touch T.fd_law_touch ["block"] (spTouch K 5 5) := ok_touch T 5 5
  refine T.F_law_swapped.ok sc_law_swapped (fun vs H Q E h => ?_) (fun cdv A outer s H vs Q E hr h => ?_)
  · obtain ⟨v, G, n, i, rfl, _⟩ := h
    rfl
  obtain ⟨v, G, n, i, rfl, dv, sg, q⟩ := h
  refine ⟨_, (pss_cons (ps_set (i := 3) sc_law_swapped.nd rfl (Or.inl rfl) (pe_call G_law_proc (hr.mono (by omega)) rfl T.g_law_proc T.k_law_proc T.b_law_proc .nil pass0 (pa_cons (pv 0) (pa_cons (pv 1) pa_nil))))
    (pss_cons (ps_if (PW.pt (pw_or (pt_cmpR op_isN (pv 3) pe_non (nomark _)) (pw_or (pt_cmpR op_lt (pv 2) pe_int (nomark _)) (pw_or1 (pt_cmpR op_gt (pe_op op_add (pv 2) pe_int) (pe_callB call_len_seq (by rfl) T.z_len (by decide +kernel) (pa_cons (pe_ix ix_tup (pv 3) pe_int (fun _ _ => rfl)) pa_nil)) (nomark _))))))
      (pss_one (ps_ret pe_non))
      pss_nil)
    (pss_cons (ps_set (i := 4) sc_law_swapped.nd rfl (Or.inl rfl) (pe_call G_law_touch (hr.mono (by omega)) rfl T.g_law_touch T.k_law_touch T.b_law_touch .nil pass0 (pa_cons (pe_slice (slTB K rfl) (pe_ix ix_tup (pv 3) pe_int (fun _ _ => rfl)) (po_some (pv 2)) (po_some (pe_op op_add (pv 2) pe_int))) pa_nil)))
    (pss_cons (ps_set (i := 5) sc_law_swapped.nd rfl (Or.inl rfl) (pe_call G_law_touch (hr.mono (by omega)) rfl T.g_law_touch T.k_law_touch T.b_law_touch .nil pass0 (pa_cons (pe_slice (slTB K rfl) (pe_ix ix_tup (pv 3) pe_int (fun _ _ => rfl)) (po_some (pe_op op_add (pv 2) pe_int)) (po_some (pe_op op_add (pv 2) pe_int))) pa_nil)))
    (pss_cons (ps_for PassesOwn.never rfl (pi_list (pe_ix ix_tup (pv 4) pe_int (fun _ _ => rfl))) (pg_name (i := 6) sc_law_swapped.nd rfl (Or.inl rfl))
      (pss_one (ps_if (PW.pt (pw_or (pt_cmpR op_in_seq (pv 6) (pe_ix ix_tup (pv 5) pe_int (fun _ _ => rfl)) rfl) (pw_or1 (pt_cmpR op_in_seq (pv 6) (pe_ix ix_tup (pv 5) pe_int (fun _ _ => rfl)) rfl))))
      (pss_one (ps_ret pe_non))
      pss_nil)))
    (pss_cons (ps_for PassesOwn.never rfl (pi_list (pe_ix ix_tup (pv 5) pe_int (fun _ _ => rfl))) (pg_name (i := 6) sc_law_swapped.nd rfl (Or.inl rfl))
      (pss_one (ps_if (pt_cmpR op_in_seq (pv 6) (pe_ix ix_tup (pv 4) pe_int (fun _ _ => rfl)) rfl)
      (pss_one (ps_ret pe_non))
      pss_nil)))
    (pss_one (ps_ret (pe_call G_law_with (hr.mono (by omega)) rfl T.g_law_with T.k_law_with T.b_law_with .nil pass0 (pa_cons (pv 0) (pa_cons (pv 1) (pa_cons (pe_op (CatB.op_catB K rfl) (pe_op (CatB.op_catB K rfl) (pe_slice (slTB K rfl) (pe_ix ix_tup (pv 3) pe_int (fun _ _ => rfl)) po_none (po_some (pv 2))) (pe_tup (pa_cons (pe_ix ix_tup (pe_ix ix_tup (pv 3) pe_int (fun _ _ => rfl)) (pe_op op_add (pv 2) pe_int) (fun _ _ => rfl)) (pa_cons (pe_ix ix_tup (pe_ix ix_tup (pv 3) pe_int (fun _ _ => rfl)) (pv 2) (fun _ _ => rfl)) pa_nil)))) (pe_slice (slTB K rfl) (pe_ix ix_tup (pv 3) pe_int (fun _ _ => rfl)) (po_some (pe_op op_add (pv 2) pe_int)) po_none)) (pa_cons (pe_ix ix_tup (pv 3) pe_int (fun _ _ => rfl)) pa_nil))))))))))))), ?_⟩
  have no : ∀ {H' : Hp}, Same H H' → (∀ D, ¬ SwapTo G n i D) → Q .non H' := fun m h => q _ _ m (.inl ⟨rfl, fun D z => h D (step_swap.mp z)⟩)
  have dv0 := dv
  obtain ⟨a, u1, u2, u3, pa, ps, rfl, ha, d1, d2, d3, hpa, dps⟩ := ga_inv dv
  refine ⟨_, rfl, _, rfl, .ref a, n, G, rfl, dv0, fun p hp u hu => ?_, fun hp => ?_⟩
  case refine_2 =>
    exact ⟨_, rfl, rfl, _, rfl, iteT2 (by simp) (iteT2 rfl (no (Same.refl _) fun D ⟨p, j, _, _, h, _⟩ => by rw [h.1] at hp; cases hp))⟩
  obtain ⟨pra, la', ba, rv, bs, rfl, hpra, hla, hba, dbs, dres⟩ := pr_inv hu
  have lb : bs.length = p.block.l.length := (DpAll.len dbs).trans (List.length_map _)
  have hpm := Ga.proc_mem hp
  have no2 : ∀ {H' : Hp}, Same H H' → (∀ (j : Nat) s1 s2, i = (j : Int) → p.block.l[j]? = some s1 → p.block.l[j + 1]? = some s2 → ¬ Meets s1 s2 → ¬ Meets s2 s1 → False) → Q .non H' := fun m h => no m fun D ⟨p', j, s1, s2, h1, h2, h3, h4, _⟩ => by
    have h5 := h1.1
    rw [hp] at h5
    cases h5
    exact h j s1 s2 h1.2.1 h1.2.2 h2 h3 h4
  refine ⟨_, rfl, rfl, _, rfl, iteF2 (by simp) ?_⟩
  refine ⟨_, rfl, _, _, rfl, rfl, _, rfl, ?_⟩
  by_cases c1 : i < 0
  case pos => exact iteT2 (decide_eq_true c1) (iteT2 rfl (no2 (Same.refl _) fun j _ _ e _ _ _ _ => by omega))
  refine iteF2 (decide_eq_false c1) ⟨_, rfl, _, _, rfl, rfl, _, rfl, pra, _, 4, _, rfl, rfl, hpra, atI_nat (j := 4) rfl, ba, bs, rfl, .inr hba, _, _, rfl, rfl, _, rfl, ?_⟩
  obtain ⟨j, rfl⟩ := Int.eq_ofNat_of_zero_le (show 0 ≤ i by omega)
  by_cases c2 : (j : Int) + 2 > (bs.length : Int)
  case pos => exact iteT2 (decide_eq_true c2) (no2 (Same.refl _) fun j' _ _ e _ h _ _ => by have := (List.getElem?_eq_some_iff.mp h).1; omega)
  refine iteF2 (decide_eq_false c2) ?_
  obtain ⟨s1, es1⟩ : ∃ s1, p.block.l[j]? = some s1 := ⟨p.block.l[j]'(by omega), List.getElem?_eq_getElem _⟩
  obtain ⟨s2, es2⟩ : ∃ s2, p.block.l[j + 1]? = some s2 := ⟨p.block.l[j + 1]'(by omega), List.getElem?_eq_getElem _⟩
  obtain ⟨v1, ev1, dv1⟩ := DpAll.get dbs (show (p.block.l.map Stm.d)[j]? = some s1.d by rw [List.getElem?_map, es1]; rfl)
  obtain ⟨v2, ev2, dv2⟩ := DpAll.get dbs (show (p.block.l.map Stm.d)[j + 1]? = some s2.d by rw [List.getElem?_map, es2]; rfl)
  have k1 := sg.stm hpm.1 (List.mem_of_getElem? es1)
  have k2 := sg.stm hpm.1 (List.mem_of_getElem? es2)
  obtain ⟨N, hN, pl, inj⟩ := sg.pl
  have p1 := Blk.pl_l (pl p hpm.1).1 s1 (List.mem_of_getElem? es1)
  have p2 := Blk.pl_l (pl p hpm.1).1 s2 (List.mem_of_getElem? es2)
  have no3 : ∀ {H' : Hp}, Same H H' → (¬ Meets s1 s2 → ¬ Meets s2 s1 → False) → Q .non H' := fun m h => no2 m fun j' t1 t2 e h1 h2 h3 h4 => by
    have ej : j' = j := by omega
    subst ej
    rw [es1] at h1
    rw [es2] at h2
    cases h1
    cases h2
    exact h h3 h4
  refine ⟨_, rfl, pra, _, 4, _, rfl, rfl, hpra, atI_nat (j := 4) rfl, _, rfl, _, rfl, _, rfl, _, _, rfl, rfl, _, rfl, ba, bs, rfl, hba, fun b1 H1 m1 hb1 => ?_⟩
  rw [show ((j : Nat) : Int) + 1 = ((j + 1 : Nat) : Int) from rfl, cut_some, one_cut ev1] at hb1
  have db1 : Dp K H1 (.ref b1) (Blk.of [s1]).d := by
    refine .tup hb1 ?_
    rw [Blk.ds_of]
    exact .cons (dp_mono m1 _ _ dv1) .nil
  refine ⟨.ref b1, _, rfl, db1, blF_1 k1.1, by decide, by rw [tot_1]; omega, fun tA A1 A2 H2 m2 htA nA1 nA2 neA hA1 hA2 => ?_⟩
  rw [tr_1] at hA1
  rw [tw_1] at hA2
  have m12 := m1.trans m2
  refine ⟨_, rfl, pra, _, 4, _, rfl, rfl, sqT_mono m12 hpra, atI_nat (j := 4) rfl, _, rfl, _, _, rfl, rfl, _, rfl, _, rfl, _, _, rfl, rfl, _, rfl, ba, bs, rfl, sqT_mono m12 hba, fun b2 H3 m3 hb2 => ?_⟩
  rw [show ((j : Nat) : Int) + 1 = ((j + 1 : Nat) : Int) from rfl, show ((j : Nat) : Int) + 2 = ((j + 1 + 1 : Nat) : Int) from rfl, cut_some, one_cut (j := j + 1) ev2] at hb2
  have m13 := m12.trans m3
  have db2 : Dp K H3 (.ref b2) (Blk.of [s2]).d := by
    refine .tup hb2 ?_
    rw [Blk.ds_of]
    exact .cons (dp_mono m13 _ _ dv2) .nil
  refine ⟨.ref b2, _, rfl, db2, blF_1 k2.1, by decide, by rw [tot_1]; omega, fun tB B1 B2 H4 m4 htB nB1 nB2 neB hB1 hB2 => ?_⟩
  rw [tr_1] at hB1
  rw [tw_1] at hB2
  have m14 := m13.trans m4
  have htA4 := sqT_mono (m3.trans m4) htA
  have hA14 := (m3.trans m4) _ _ hA1
  have hA24 := (m3.trans m4) _ _ hA2
  clear htA hA1 hA2 nA1 nA2 nB1 nB2 hb1 hb2 db1 db2
  have im : ∀ (t : Stm) (q : Str × Str), t.Pl N → q ∈ N → (usB q ∈ t.tr.map usB ↔ q ∈ t.tr) ∧ (usB q ∈ t.tw.map usB ↔ q ∈ t.tw) := fun t q ht hq => by
    refine ⟨⟨fun h => ?_, fun h => List.mem_map.mpr ⟨q, h, rfl⟩⟩, ⟨fun h => ?_, fun h => List.mem_map.mpr ⟨q, h, rfl⟩⟩⟩
    · obtain ⟨z, hz, e⟩ := List.mem_map.mp h
      rw [← inj z (pl_trs ht z hz) q hq e]; exact hz
    · obtain ⟨z, hz, e⟩ := List.mem_map.mp h
      rw [← inj z (pl_tw ht z hz) q hq e]; exact hz
  refine ⟨_, rfl, tA, _, 1, _, rfl, rfl, htA4, atI_nat (j := 1) rfl, A2, rfl, ⟨_, SqL.of hA24⟩, ?_⟩
  refine for_list (K := K) (a := A2) (xs := (s1.tw.map usB).map V.str) (fun i σ H' => H' = H4 ∧ (∃ y, σ = [some (.ref a), some (.str n), some (.int (j : Int)), some (.ref pra), some (.ref tA), some (.ref tB), y]) ∧ ∀ q ∈ s1.tw.take i, q ∉ s2.tr ∧ q ∉ s2.tw) ⟨rfl, ⟨none, rfl⟩, by simp⟩ (fun i σ H' _ h => by rw [h.1]; exact SqL.of hA24) ?_ ?_
  · rintro i x σ H' hx ⟨rfl, ⟨y, rfl⟩, hn⟩
    rw [List.getElem?_map, List.getElem?_map] at hx
    obtain ⟨z, hz, rfl⟩ := Option.map_eq_some_iff.mp hx
    obtain ⟨r, hr, rfl⟩ := Option.map_eq_some_iff.mp hz
    have hrN := pl_tw p1 r (List.mem_of_getElem? hr)
    have iff := im s2 r p2 hrN
    refine ⟨_, rfl, _, rfl, tB, _, 0, _, rfl, rfl, htB, atI_nat (j := 0) rfl, B1, _, rfl, .inl (SqL.of hB1), rfl, Pz.flat_strs _, _, rfl, ?_⟩
    rw [if_neg Bool.false_ne_true, Pz.inV_strs]
    have hm := List.mem_of_getElem? hr
    by_cases c3 : usB r ∈ s2.tr.map usB
    case pos => exact iteT2 (decide_eq_true c3) (iteT2 rfl (no3 m14 fun h _ => h ⟨r, hm, .inl (iff.1.mp c3)⟩))
    refine iteF2 (decide_eq_false c3) ⟨_, rfl, _, rfl, tB, _, 1, _, rfl, rfl, htB, atI_nat (j := 1) rfl, B2, _, rfl, .inl (SqL.of hB2), rfl, Pz.flat_strs _, _, rfl, ?_⟩
    rw [if_neg Bool.false_ne_true, Pz.inV_strs]
    by_cases c4 : usB r ∈ s2.tw.map usB
    case pos => exact iteT2 (decide_eq_true c4) (no3 m14 fun h _ => h ⟨r, hm, .inr (iff.2.mp c4)⟩)
    refine iteF2 (decide_eq_false c4) ⟨rfl, ⟨_, rfl⟩, ?_⟩
    rw [take_more hr]
    intro z hz
    rcases List.mem_append.mp hz with hz | hz
    · exact hn z hz
    · rw [List.mem_singleton.mp hz]
      exact ⟨fun h => c3 (iff.1.mpr h), fun h => c4 (iff.2.mpr h)⟩
  rintro σ H' ⟨rfl, ⟨y, rfl⟩, hn⟩
  rw [List.length_map, List.length_map, List.take_length] at hn
  have f1 : ¬ Meets s1 s2 := fun ⟨z, h1, h2⟩ => h2.elim (hn z h1).1 (hn z h1).2
  refine ⟨_, rfl, tB, _, 1, _, rfl, rfl, htB, atI_nat (j := 1) rfl, B2, rfl, ⟨_, SqL.of hB2⟩, ?_⟩
  refine for_list (K := K) (a := B2) (xs := (s2.tw.map usB).map V.str) (fun i σ H'' => H'' = H' ∧ (∃ y, σ = [some (.ref a), some (.str n), some (.int (j : Int)), some (.ref pra), some (.ref tA), some (.ref tB), y]) ∧ ∀ q ∈ s2.tw.take i, q ∉ s1.tr) ⟨rfl, ⟨_, rfl⟩, by simp⟩ (fun i σ H' _ h => by rw [h.1]; exact SqL.of hB2) ?_ ?_
  · rintro i x σ H'' hx ⟨rfl, ⟨y, rfl⟩, hn2⟩
    rw [List.getElem?_map, List.getElem?_map] at hx
    obtain ⟨z, hz, rfl⟩ := Option.map_eq_some_iff.mp hx
    obtain ⟨r, hr, rfl⟩ := Option.map_eq_some_iff.mp hz
    have hrN := pl_tw p2 r (List.mem_of_getElem? hr)
    have iff := im s1 r p1 hrN
    have hm := List.mem_of_getElem? hr
    refine ⟨_, rfl, _, rfl, tA, _, 0, _, rfl, rfl, htA4, atI_nat (j := 0) rfl, A1, _, rfl, .inl (SqL.of hA14), rfl, Pz.flat_strs _, _, rfl, ?_⟩
    rw [if_neg Bool.false_ne_true, Pz.inV_strs]
    by_cases c3 : usB r ∈ s1.tr.map usB
    case pos => exact iteT2 (decide_eq_true c3) (no3 m14 fun _ h => h ⟨r, hm, .inl (iff.1.mp c3)⟩)
    refine iteF2 (decide_eq_false c3) ⟨rfl, ⟨_, rfl⟩, ?_⟩
    rw [take_more hr]
    intro z hz
    rcases List.mem_append.mp hz with hz | hz
    · exact hn2 z hz
    · rw [List.mem_singleton.mp hz]
      exact fun h => c3 (iff.1.mpr h)
  rintro σ H'' ⟨rfl, ⟨y2, rfl⟩, hn2⟩
  rw [List.length_map, List.length_map, List.take_length] at hn2
  have f2 : ¬ Meets s2 s1 := fun ⟨z, h1, h2⟩ => h2.elim (hn2 z h1) fun h => (hn z h).2 h1
  have hpra4 := sqT_mono m14 hpra
  have hba4 := sqT_mono m14 hba
  refine ⟨_, rfl, _, rfl, _, rfl, pra, _, 4, _, rfl, rfl, hpra4, atI_nat (j := 4) rfl, _, rfl, _, rfl, ba, bs, rfl, hba4, fun b3 J1 n1 hb3 => ?_⟩
  rw [cut_take] at hb3
  have big : ∀ n : Nat, n ≤ 3000 → n ≤ sizeLine := fun n h => Nat.le_trans h (by decide)
  have lbt := (sg.t p hpm.1).2
  have hpra5 := sqT_mono n1 hpra4
  have hba5 := sqT_mono n1 hba4
  refine ⟨_, rfl, pra, _, 4, _, rfl, rfl, hpra5, atI_nat (j := 4) rfl, _, rfl, _, _, rfl, rfl, ba, bs, _, _, rfl, rfl, hba5, atI_nat (j := j + 1) ev2, ?_⟩
  refine ⟨_, rfl, pra, _, 4, _, rfl, rfl, hpra5, atI_nat (j := 4) rfl, _, rfl, ba, bs, _, _, rfl, rfl, hba5, atI_nat (j := j) ev1, ?_⟩
  refine ⟨by show 2 ≤ sizeLine; decide, fun t1 h1 => ?_⟩
  have n2 := same_new h1 (.tup [v2, v1])
  refine ⟨b3, t1, _, _, rfl, rfl, sqT_mono n2 hb3, SqT.of upd_same, big _ ?_, fun c1 J2 n3 hc1 => ?_⟩
  · simp only [List.length_take, List.length_cons, List.length_nil]
    omega
  have n13 := n1.trans (n2.trans n3)
  have hpra6 := sqT_mono n13 hpra4
  refine ⟨_, rfl, pra, _, 4, _, rfl, rfl, hpra6, atI_nat (j := 4) rfl, _, rfl, _, _, rfl, rfl, _, rfl, ba, bs, rfl, sqT_mono n13 hba4, fun b4 J3 n4 hb4 => ?_⟩
  rw [show ((j : Nat) : Int) + 2 = ((j + 2 : Nat) : Int) from rfl, cut_drop] at hb4
  refine ⟨c1, b4, _, _, rfl, rfl, sqT_mono n4 hc1, hb4, big _ ?_, fun c2 J4 n5 hc2 => ?_⟩
  · simp only [List.length_append, List.length_take, List.length_drop, List.length_cons, List.length_nil]
    omega
  have n15 := n13.trans (n4.trans n5)
  have mm := m14.trans n15
  refine ⟨_, rfl, pra, _, 3, _, rfl, rfl, sqT_mono n15 hpra4, atI_nat (j := 3) rfl, ?_⟩
  have dbsm := dp_monoAll mm _ _ dbs
  have dblk : Dp K J4 (.ref c2) (Blk.of (p.block.l.take j ++ [s2, s1] ++ p.block.l.drop (j + 2))).d := by
    refine .tup hc2 ?_
    rw [Blk.ds_of, List.map_append, List.map_append, List.map_take, List.map_drop]
    exact DpAll.app (DpAll.app (DpAll.take j dbsm) (.cons (dp_mono mm _ _ dv2) (.cons (dp_mono mm _ _ dv1) .nil))) (DpAll.drop (j + 2) dbsm)
  have dnl : Dp K J4 (.ref la') (strD p.locs) := .tup (sqT_mono mm hla) (dp_strs _)
  refine ⟨.ref a, .ref c2, .ref la', n, G, _, _, rfl, dp_mono mm _ _ dv0, dblk, dnl, by have := sg.n; omega, fun u J5 n6 du => ?_⟩
  have hnm := hpm.2
  subst hnm
  have eq : G.put (p.repl j 2 [s2, s1]) = G.setB p.name p.locs (Blk.of (p.block.l.take j ++ [s2, s1] ++ p.block.l.drop (j + 2))) := put_setB sg.u hpm.1
  have f12 := sg.f.mono (j := 12) (e := 12) (by decide) (by decide)
  have fp := f12.procs p hpm.1
  refine q u J5 (mm.trans n6) (.inr ⟨_, du, step_swap.mpr ⟨p, j, s1, s2, ⟨hp, rfl, es1⟩, es2, f1, f2, eq.symm⟩, f12.setB fp.locs (blF.of fun x hx => ?_), fun D' hD' => ?_⟩)
  · rcases List.mem_append.mp hx with h | h
    · rcases List.mem_append.mp h with h | h
      · exact blF.l fp.block x (List.mem_of_mem_take h)
      · rcases List.mem_cons.mp h with rfl | h
        · exact blF.l fp.block _ (List.mem_of_getElem? es2)
        · rw [List.mem_singleton.mp h]; exact blF.l fp.block _ (List.mem_of_getElem? es1)
    · exact blF.l fp.block x (List.mem_of_mem_drop h)
  · obtain ⟨p', j', t1, t2, h1, h2, _, _, rfl⟩ := step_swap.mp hD'
    obtain ⟨rfl, rfl, rfl⟩ := at_same (⟨hp, rfl, es1⟩ : Ga.At G p.name (j : Int) p j s1) h1
    have e := Option.some.inj (es2.symm.trans h2)
    subst e
    exact eq
end
end Toy
set_option Elab.async false
set_option linter.all false
set_option maxRecDepth 100000
set_option maxHeartbeats 8000000
namespace Toy
open PySem L2 NdefX Gm
open Mine hiding same_new
section
variable {P : Program} {w : World} {K : PySem.W.Frag} {mg : Str → Option Value} {base : Heap} {file : Str}
theorem ok_ldrop (T : Txt K mg file) : FnOk P w K mg base CX0 14 T.a_law_dropped T.fd_law_dropped ["game", "name", "at"] (spLDrop K) := by
  have G_law_proc : FnOk P w K mg base CX0 1 T.a_law_proc T.fd_law_proc ["game", "name"] (spLProc K) := ok_lproc T
  have G_law_with : FnOk P w K mg base CX0 1 T.a_law_with T.fd_law_with ["game", "name", "block", "names"] (spWithB K) := ok_withB T
  have G_law_touch : FnOk P w K mg base CX0 13 T.a_law_touch T.fd_law_touch ["block"] (spTouch K 5 5) := ok_touch T 5 5
  have G_law_uses : FnOk P w K mg base CX0 6 T.a_law_uses T.fd_law_uses ["expression"] (spUses K 5) := ok_uses T 5
  refine T.F_law_dropped.ok sc_law_dropped (fun vs H Q E h => ?_) (fun cdv A outer s H vs Q E hr h => ?_)
  · obtain ⟨v, G, n, i, rfl, _⟩ := h
    rfl
  obtain ⟨v, G, n, i, rfl, dv, sg, q⟩ := h
  refine ⟨_, (pss_cons (ps_set (i := 3) sc_law_dropped.nd rfl (Or.inl rfl) (pe_call G_law_proc (hr.mono (by omega)) rfl T.g_law_proc T.k_law_proc T.b_law_proc .nil pass0 (pa_cons (pv 0) (pa_cons (pv 1) pa_nil))))
    (pss_cons (ps_if (PW.pt (pw_or (pt_cmpR op_isN (pv 3) pe_non (nomark _)) (pw_or (pt_not (pt_chain op_le op_lt pe_int (pv 2) (pe_callB call_len_seq (by rfl) T.z_len (by decide +kernel) (pa_cons (pe_ix ix_tup (pv 3) pe_int (fun _ _ => rfl)) pa_nil)))) (pw_or1 (pt_cmpR op_notIn_seq (pe_ix ix_tup (pe_ix ix_tup (pe_ix ix_tup (pv 3) pe_int (fun _ _ => rfl)) (pv 2) (fun _ _ => rfl)) pe_int (fun _ _ => rfl)) (pe_tup (pa_cons pe_str (pa_cons pe_str pa_nil))) rfl)))))
      (pss_one (ps_ret pe_non))
      pss_nil)
    (pss_cons (ps_if (pt_cmpR op_in_seq (pe_op op_add_str pe_str (pe_ix ix_tup (pe_ix ix_tup (pe_ix ix_tup (pv 3) pe_int (fun _ _ => rfl)) (pv 2) (fun _ _ => rfl)) pe_int (fun _ _ => rfl))) (pe_op op_cat (pe_ix ix_tup (pe_call G_law_touch (hr.mono (by omega)) rfl T.g_law_touch T.k_law_touch T.b_law_touch .nil pass0 (pa_cons (pe_slice (slTB K rfl) (pe_ix ix_tup (pv 3) pe_int (fun _ _ => rfl)) (po_some (pe_op op_add (pv 2) pe_int)) po_none) pa_nil)) pe_int (fun _ _ => rfl)) (pe_call G_law_uses (hr.mono (by omega)) rfl T.g_law_uses T.k_law_uses T.b_law_uses .nil pass0 (pa_cons (pe_ix ix_tup (pv 3) pe_int (fun _ _ => rfl)) pa_nil))) rfl)
      (pss_one (ps_ret pe_non))
      pss_nil)
    (pss_one (ps_ret (pe_call G_law_with (hr.mono (by omega)) rfl T.g_law_with T.k_law_with T.b_law_with .nil pass0 (pa_cons (pv 0) (pa_cons (pv 1) (pa_cons (pe_op (CatB.op_catB K rfl) (pe_slice (slTB K rfl) (pe_ix ix_tup (pv 3) pe_int (fun _ _ => rfl)) po_none (po_some (pv 2))) (pe_slice (slTB K rfl) (pe_ix ix_tup (pv 3) pe_int (fun _ _ => rfl)) (po_some (pe_op op_add (pv 2) pe_int)) po_none)) (pa_cons (pe_ix ix_tup (pv 3) pe_int (fun _ _ => rfl)) pa_nil)))))))))), ?_⟩
  have no : ∀ {H' : Hp}, Same H H' → (∀ D, ¬ DropTo G n i D) → Q .non H' := fun m h => q _ _ m (.inl ⟨rfl, fun D z => h D (step_drop.mp z)⟩)
  have dv0 := dv
  obtain ⟨a, u1, u2, u3, pa, ps, rfl, ha, d1, d2, d3, hpa, dps⟩ := ga_inv dv
  refine ⟨_, rfl, _, rfl, .ref a, n, G, rfl, dv0, fun p hp u hu => ?_, fun hp => ?_⟩
  case refine_2 =>
    exact ⟨_, rfl, rfl, _, rfl, iteT2 (by simp) (iteT2 rfl (no (Same.refl _) fun D ⟨p, j, _, _, h, _⟩ => by rw [h.1] at hp; cases hp))⟩
  obtain ⟨pra, la', ba, rv, bs, rfl, hpra, hla, hba, dbs, dres⟩ := pr_inv hu
  have lb : bs.length = p.block.l.length := (DpAll.len dbs).trans (List.length_map _)
  have hpm := Ga.proc_mem hp
  have no2 : ∀ {H' : Hp}, Same H H' → (∀ (j : Nat) s1 x, i = (j : Int) → p.block.l[j]? = some s1 → SetsL s1 x → (("local" : Str), x) ∉ (Blk.of (p.block.l.drop (j + 1))).rds ++ p.res.reads → False) → Q .non H' := fun m h => no m fun D ⟨p', j, s1, x, h1, h2, h3, _⟩ => by
    have h5 := h1.1
    rw [hp] at h5
    cases h5
    exact h j s1 x h1.2.1 h1.2.2 h2 h3
  refine ⟨_, rfl, rfl, _, rfl, iteF2 (by simp) ?_⟩
  by_cases c1 : 0 ≤ i
  case neg => exact ⟨_, rfl, _, _, rfl, rfl, _, rfl, iteF2 (decide_eq_false c1) ⟨_, rfl, iteT2 rfl (iteT2 rfl (no2 (Same.refl _) fun j _ _ e _ _ _ => by omega))⟩⟩
  refine ⟨_, rfl, _, _, rfl, rfl, _, rfl, iteT2 (decide_eq_true c1) ⟨_, rfl, pra, _, 4, _, rfl, rfl, hpra, atI_nat (j := 4) rfl, ba, bs, rfl, .inr hba, _, _, rfl, rfl, _, rfl, ?_⟩⟩
  obtain ⟨j, rfl⟩ := Int.eq_ofNat_of_zero_le c1
  by_cases c2 : (j : Int) < (bs.length : Int)
  case neg => exact iteT2 (by rw [decide_eq_false c2]; rfl) (iteT2 rfl (no2 (Same.refl _) fun j' _ _ e h _ _ => by have := (List.getElem?_eq_some_iff.mp h).1; omega))
  refine iteF2 (by rw [decide_eq_true c2]; rfl) ?_
  obtain ⟨s1, es1⟩ : ∃ s1, p.block.l[j]? = some s1 := ⟨p.block.l[j]'(by omega), List.getElem?_eq_getElem _⟩
  obtain ⟨v1, ev1, dv1⟩ := DpAll.get dbs (show (p.block.l.map Stm.d)[j]? = some s1.d by rw [List.getElem?_map, es1]; rfl)
  have k1 := sg.stm hpm.1 (List.mem_of_getElem? es1)
  obtain ⟨N, hN, pl, inj⟩ := sg.pl
  have p1 := Blk.pl_l (pl p hpm.1).1 s1 (List.mem_of_getElem? es1)
  have no3 : ∀ {H' : Hp}, Same H H' → (∀ x, SetsL s1 x → (("local" : Str), x) ∉ (Blk.of (p.block.l.drop (j + 1))).rds ++ p.res.reads → False) → Q .non H' := fun m h => no2 m fun j' t1 x e h1 h2 h3 => by
    have ej : j' = j := by omega
    subst ej
    rw [es1] at h1
    cases h1
    exact h x h2 h3
  obtain ⟨za, zr, rfl, hza, dzr⟩ := stm_inv dv1
  refine ⟨_, rfl, pra, _, 4, _, rfl, rfl, hpra, atI_nat (j := 4) rfl, _, rfl, ba, bs, _, _, rfl, rfl, hba, atI_nat ev1, za, _, 0, _, rfl, rfl, hza, atI_nat (j := 0) rfl, by show 2 ≤ sizeLine; decide, fun t1 h1 => ?_⟩
  have m1 := same_new h1 (.tup [V.str "let", .str "draw"])
  refine ⟨_, _, rfl, .inr (SqT.of upd_same), rfl, by decide +kernel, _, rfl, ?_⟩
  rw [if_pos rfl, show inV (.str s1.kind) [V.str "let", .str "draw"] = decide (s1.kind ∈ (["let", "draw"] : List Str)) from Pz.inV_strs s1.kind ["let", "draw"]]
  by_cases c3 : s1.kind ∈ (["let", "draw"] : List Str)
  case neg => exact iteT2 (by simp [c3]) (no3 m1 fun x h _ => c3 (by rcases kind_setsL h with e | e <;> rw [e] <;> simp))
  refine iteF2 (by simp [c3]) ?_
  obtain ⟨x, hx⟩ := setsL_kind (s := s1) (by simpa using c3)
  obtain ⟨zr', rfl⟩ := setsL_d hx dzr
  have nmx := setsL_nm hx k1.1
  have hxN : (("local" : Str), x) ∈ N := by
    rcases hx with ⟨e, rfl⟩ | ⟨c, rfl⟩
    · unfold Stm.Pl at p1; exact p1.1
    · unfold Stm.Pl at p1; exact p1
  revert m1
  generalize upd H t1 (.tup [V.str "let", .str "draw"]) = H1
  intro m1
  have hpra1 := sqT_mono m1 hpra
  have hba1 := sqT_mono m1 hba
  have hza1 := sqT_mono m1 hza
  refine ⟨_, rfl, pra, _, 4, _, rfl, rfl, hpra1, atI_nat (j := 4) rfl, _, rfl, ba, bs, _, _, rfl, rfl, hba1, atI_nat ev1, za, _, 1, _, rfl, rfl, hza1, atI_nat (j := 1) rfl, _, _, rfl, rfl, ?_⟩
  have lx := nm_len nmx
  have lc := local_len
  refine ⟨Nat.le_trans (show _ ≤ 3000 by omega) (by decide), ?_⟩
  refine ⟨_, rfl, pra, _, 4, _, rfl, rfl, hpra1, atI_nat (j := 4) rfl, _, rfl, _, _, rfl, rfl, _, rfl, ba, bs, rfl, hba1, fun b1 H2 m2 hb1 => ?_⟩
  rw [show ((j : Nat) : Int) + 1 = ((j + 1 : Nat) : Int) from rfl, cut_drop] at hb1
  have m12 := m1.trans m2
  have db1 : Dp K H2 (.ref b1) (Blk.of (p.block.l.drop (j + 1))).d := by
    refine .tup hb1 ?_
    rw [Blk.ds_of, List.map_drop]
    exact DpAll.drop (j + 1) (dp_monoAll m12 _ _ dbs)
  have bf := (sg.f.procs p hpm.1).block
  have rf := (sg.f.procs p hpm.1).res
  have bfd : blF 5 5 (Blk.of (p.block.l.drop (j + 1))) := blF.of fun x hx => blF.l bf x (List.mem_of_mem_drop hx)
  have t300 := sg.t p hpm.1
  have tdr : (Blk.of (p.block.l.drop (j + 1))).tot ≤ 300 := by
    have e := tot_app (p.block.l.take (j + 1)) (p.block.l.drop (j + 1))
    rw [List.take_append_drop, of_l] at e
    omega
  refine ⟨.ref b1, _, rfl, db1, bfd, by decide, by omega, fun tA A1 A2 H3 m3 htA nA1 nA2 neA hA1 hA2 => ?_⟩
  have m13 := m12.trans m3
  refine ⟨tA, _, 0, _, rfl, rfl, htA, atI_nat (j := 0) rfl, ?_⟩
  refine ⟨_, rfl, pra, _, 5, _, rfl, rfl, sqT_mono m13 hpra, atI_nat (j := 5) rfl, rv, p.res, rfl, dp_mono m13 _ _ dres, rf, by decide, fun L H4 nL m4 hL => ?_⟩
  have m14 := m13.trans m4
  have hA14 := m4 _ _ hA1
  rw [us_reads] at hL
  refine ⟨A1, L, _, _, rfl, rfl, hA14, hL, ?_, fun D hD => ?_⟩
  · have g1 := Blk.tr_len (show 2 ^ 5 ≤ 64 by decide) bfd
    have g2 := reads_len2 rf
    simp only [List.length_map]
    exact Nat.le_trans (show _ ≤ 200000 by omega) (by decide)
  rw [us2]
  have m5 := same_new hD (.lst ((((Blk.of (p.block.l.drop (j + 1))).tr ++ p.res.reads).map usB).map V.str))
  refine ⟨D, _, rfl, .inl (SqL.of upd_same), rfl, Pz.flat_strs _, _, rfl, ?_⟩
  rw [if_neg Bool.false_ne_true, Pz.inV_strs]
  have m15 := m14.trans m5
  have eu : (("local " : Str) ++ x) = usB (("local" : Str), x) := by
    unfold usB usT
    rw [if_neg (show ¬ ((("local" : Str), x) : Str × Str).1 = "bad" by dsimp only; decide +kernel), show (("local" : Str), x).1 ++ " " = ("local " : Str) from by dsimp only; decide +kernel]
  have plb : (Blk.of (p.block.l.drop (j + 1))).Pl N := Blk.pl_of fun s hs => Blk.pl_l (pl p hpm.1).1 s (List.mem_of_mem_drop hs)
  have inN : ∀ q ∈ (Blk.of (p.block.l.drop (j + 1))).tr ++ p.res.reads, q ∈ N := fun q hq => by
    rcases List.mem_append.mp hq with h | h
    · obtain ⟨st, hs, h⟩ := List.mem_flatMap.mp ((Blk.tr_mem q _).mp h)
      exact (Blk.pl_all plb st hs).1 q h
    · exact (pl p hpm.1).2 q h
  have iff : ((("local " : Str) ++ x) ∈ ((Blk.of (p.block.l.drop (j + 1))).tr ++ p.res.reads).map usB) ↔ (("local" : Str), x) ∈ (Blk.of (p.block.l.drop (j + 1))).rds ++ p.res.reads := by
    rw [eu]
    have e2 : (("local" : Str), x) ∈ (Blk.of (p.block.l.drop (j + 1))).tr ++ p.res.reads ↔ (("local" : Str), x) ∈ (Blk.of (p.block.l.drop (j + 1))).rds ++ p.res.reads := by
      rw [List.mem_append, List.mem_append, Blk.tr_mem]
    rw [← e2]
    constructor
    · intro h
      obtain ⟨z, hz, e⟩ := List.mem_map.mp h
      rw [← inj z (inN z hz) _ hxN e]; exact hz
    · exact fun h => List.mem_map.mpr ⟨_, h, rfl⟩
  by_cases c4 : (("local " : Str) ++ x) ∈ ((Blk.of (p.block.l.drop (j + 1))).tr ++ p.res.reads).map usB
  case pos => exact iteT2 (decide_eq_true c4) (no3 m15 fun y hy h => h (by rw [setsL_inj hy hx]; exact iff.mp c4))
  refine iteF2 (decide_eq_false c4) ?_
  have c4' := fun h => c4 (iff.mpr h)
  revert m5 m15
  generalize upd H4 D (.lst ((((Blk.of (p.block.l.drop (j + 1))).tr ++ p.res.reads).map usB).map V.str)) = H5
  intro m5 m15
  have hpra4 := sqT_mono m15 hpra
  have hba4 := sqT_mono m15 hba
  refine ⟨_, rfl, _, rfl, _, rfl, pra, _, 4, _, rfl, rfl, hpra4, atI_nat (j := 4) rfl, _, rfl, _, rfl, ba, bs, rfl, hba4, fun b3 J1 n1 hb3 => ?_⟩
  rw [cut_take] at hb3
  refine ⟨_, rfl, pra, _, 4, _, rfl, rfl, sqT_mono n1 hpra4, atI_nat (j := 4) rfl, _, rfl, _, _, rfl, rfl, _, rfl, ba, bs, rfl, sqT_mono n1 hba4, fun b4 J3 n4 hb4 => ?_⟩
  rw [show ((j : Nat) : Int) + 1 = ((j + 1 : Nat) : Int) from rfl, cut_drop] at hb4
  have lbt := (sg.t p hpm.1).2
  refine ⟨b3, b4, _, _, rfl, rfl, sqT_mono n4 hb3, hb4, ?_, fun c2 J4 n5 hc2 => ?_⟩
  · refine Nat.le_trans (show _ ≤ 3000 from ?_) (by decide)
    simp only [List.length_take, List.length_drop]
    omega
  have n15 := n1.trans (n4.trans n5)
  have mm := m15.trans n15
  refine ⟨_, rfl, pra, _, 3, _, rfl, rfl, sqT_mono n15 hpra4, atI_nat (j := 3) rfl, ?_⟩
  have dbsm := dp_monoAll mm _ _ dbs
  have dblk : Dp K J4 (.ref c2) (Blk.of (p.block.l.take j ++ [] ++ p.block.l.drop (j + 1))).d := by
    refine .tup hc2 ?_
    rw [Blk.ds_of, List.append_nil, List.map_append, List.map_take, List.map_drop]
    exact DpAll.app (DpAll.take j dbsm) (DpAll.drop (j + 1) dbsm)
  have dnl : Dp K J4 (.ref la') (strD p.locs) := .tup (sqT_mono mm hla) (dp_strs _)
  refine ⟨.ref a, .ref c2, .ref la', n, G, _, _, rfl, dp_mono mm _ _ dv0, dblk, dnl, by have := sg.n; omega, fun u J5 n6 du => ?_⟩
  have hnm := hpm.2
  subst hnm
  have eq : G.put (p.repl j 1 []) = G.setB p.name p.locs (Blk.of (p.block.l.take j ++ [] ++ p.block.l.drop (j + 1))) := put_setB sg.u hpm.1
  have f12 := sg.f.mono (j := 12) (e := 12) (by decide) (by decide)
  have fp := f12.procs p hpm.1
  refine q u J5 (mm.trans n6) (.inr ⟨_, du, step_drop.mpr ⟨p, j, s1, x, ⟨hp, rfl, es1⟩, hx, c4', eq.symm⟩, f12.setB fp.locs (blF.of fun y hy => ?_), fun D' hD' => ?_⟩)
  · rw [List.append_nil] at hy
    rcases List.mem_append.mp hy with h | h
    · exact blF.l fp.block y (List.mem_of_mem_take h)
    · exact blF.l fp.block y (List.mem_of_mem_drop h)
  · obtain ⟨p', j', t1, y, h1, _, _, rfl⟩ := step_drop.mp hD'
    obtain ⟨rfl, rfl, rfl⟩ := at_same (⟨hp, rfl, es1⟩ : Ga.At G p.name (j : Int) p j s1) h1
    exact eq
end
end Toy
set_option Elab.async false
set_option linter.all false
set_option maxRecDepth 100000
set_option maxHeartbeats 8000000
namespace Toy
open PySem L2 NdefX Gm
open Mine hiding same_new
def spAV (K : PySem.W.Frag) (f : Str → Str) (N : List Str) (k : Nat) : Sp := fun vs H Q _ => ∃ (v : V) (dd : Addr) (e : Ex), vs = [v, .ref dd] ∧ Dp K H v e.d ∧ exF k e ∧ e.Nm N ∧ DcN H dd f N ∧ ∀ (u : V) (H' : Hp), Same H H' → Dp K H' u (e.ren f).d → Q u H'
def spAB (K : PySem.W.Frag) (f : Str → Str) (N : List Str) (k d : Nat) : Sp := fun vs H Q _ => ∃ (v : V) (dd : Addr) (b : Blk), vs = [v, .ref dd] ∧ Dp K H v b.d ∧ blF k d b ∧ b.Nm N ∧ k ≤ 6 ∧ b.l.length ≤ 900 ∧ DcN H dd f N ∧ ∀ (u : V) (H' : Hp), Same H H' → Dp K H' u (b.ren f).d → Q u H'
def AbI (K : PySem.W.Frag) (H : Hp) (a dd : Addr) (ss : List Stm) : L2.St → Hp → Prop := fun σ H' => ∃ (L : Addr) (vs : List V) (y3 y4 y5 y6 : Option V), σ = [some (.ref a), some (.ref dd), some (.ref L), y3, y4, y5, y6] ∧ Acc K H H' L vs (ss.map Stm.d)
theorem ab_app {K : PySem.W.Frag} {H H1 H3 : Hp} {a dd L : Addr} {vs : List V} {ss : List Stm} {u : V} {s : Stm} {y3 y4 y5 y6 : Option V} (ac : Acc K H H1 L vs (ss.map Stm.d)) (m : Same H1 H3) (du : Dp K H3 u s.d) : AbI K H a dd (ss ++ [s]) [some (.ref a), some (.ref dd), some (.ref L), y3, y4, y5, y6] (upd H3 L (.lst (vs ++ [u]))) := by
  refine ⟨L, vs ++ [u], y3, y4, y5, y6, rfl, ?_⟩
  rw [List.map_append]
  exact (ac.grow m).add du s.nol
section
variable {P : Program} {w : World} {K : PySem.W.Frag} {mg : Str → Option Value} {base : Heap} {file : Str}
theorem ok_av (T : Txt K mg file) (f : Str → Str) (N : List Str) : ∀ k : Nat, FnOk P w K mg base CX0 (k + 1) T.a_law_alike_value T.fd_law_alike_value ["value", "other"] (spAV K f N k)
  | 0 => by
    have G_law_alike_value : FnOk P w K mg base CX0 0 T.a_law_alike_value T.fd_law_alike_value ["value", "other"] (fun _ _ _ _ => False) := ⟨fun _ _ _ _ h => h.elim, fun _ _ _ _ _ _ _ _ _ _ _ _ _ h => h.elim⟩
    refine T.F_law_alike_value.ok sc_law_alike_value (fun vs H Q E h => ?_) (fun cdv A outer s H vs Q E hr h => ?_)
    · obtain ⟨v, dd, e, rfl, _⟩ := h
      rfl
    · obtain ⟨v, dd, e, rfl, _, z, _⟩ := h
      exact z.elim
  | k + 1 => by
    have G_law_alike_value : FnOk P w K mg base CX0 (k + 1) T.a_law_alike_value T.fd_law_alike_value ["value", "other"] (spAV K f N k) := ok_av T f N k
    refine T.F_law_alike_value.ok sc_law_alike_value (fun vs H Q E h => ?_) (fun cdv A outer s H vs Q E hr h => ?_)
    · obtain ⟨v, dd, e, rfl, _⟩ := h
      rfl
    obtain ⟨v, dd, e, rfl, de, ex, nm, hd, q⟩ := h
    refine ⟨_, (pss_cons (ps_if (pt_cmpR op_in_seq (pe_ix ix_tup (pv 0) pe_int (fun _ _ => rfl)) (pe_tup (pa_cons pe_str (pa_cons pe_str (pa_cons pe_str pa_nil)))) rfl)
      (pss_one (ps_ret (pv 0)))
      pss_nil)
    (pss_cons (ps_if (pt_cmpR op_in_seq (pe_ix ix_tup (pv 0) pe_int (fun _ _ => rfl)) (pe_tup (pa_cons pe_str (pa_cons pe_str pa_nil))) rfl)
      (pss_one (ps_ret (pe_tup (pa_cons (pe_ix ix_tup (pv 0) pe_int (fun _ _ => rfl)) (pa_cons (pe_dget (hu_of hr) (pv 1) (pe_ix ix_tup (pv 0) pe_int (fun _ _ => rfl)) (fun _ _ => rfl)) (pa_cons (pe_call G_law_alike_value (hr.mono (by omega)) rfl T.g_law_alike_value T.k_law_alike_value T.b_law_alike_value .nil pass0 (pa_cons (pe_ix ix_tup (pv 0) pe_int (fun _ _ => rfl)) (pa_cons (pv 1) pa_nil))) pa_nil))))))
      pss_nil)
    (pss_one (ps_ret (pe_tup (pa_cons (pe_ix ix_tup (pv 0) pe_int (fun _ _ => rfl)) (pa_cons (pe_call G_law_alike_value (hr.mono (by omega)) rfl T.g_law_alike_value T.k_law_alike_value T.b_law_alike_value .nil pass0 (pa_cons (pe_ix ix_tup (pv 0) pe_int (fun _ _ => rfl)) (pa_cons (pv 1) pa_nil))) (pa_cons (pe_call G_law_alike_value (hr.mono (by omega)) rfl T.g_law_alike_value T.k_law_alike_value T.b_law_alike_value .nil pass0 (pa_cons (pe_ix ix_tup (pv 0) pe_int (fun _ _ => rfl)) (pa_cons (pv 1) pa_nil))) pa_nil)))))))), ?_⟩
    have two : (2 : Nat) ≤ sizeLine := by decide
    have three : (3 : Nat) ≤ sizeLine := by decide
    have hi : ∀ x : Str, inV (.str x) [.str "number", .str "local", .str "variable"] = decide (x ∈ (["number", "local", "variable"] : List Str)) := fun x => Pz.inV_strs x ["number", "local", "variable"]
    have hj : ∀ x : Str, inV (.str x) [.str "has", .str "cell"] = decide (x ∈ (["has", "cell"] : List Str)) := fun x => Pz.inV_strs x ["has", "cell"]
    have de0 := de
    match e, ex, nm with
    | .num n, ex, nm =>
      obtain ⟨a, rfl, ha⟩ := num_inv de
      refine ⟨_, rfl, a, _, 0, _, rfl, rfl, ha, atI_nat (j := 0) rfl, three, fun t1 h1 => ?_⟩
      have n1 := same_new h1 (.tup [V.str "number", .str "local", .str "variable"])
      refine ⟨_, _, rfl, .inr (SqT.of upd_same), rfl, by decide +kernel, _, rfl, ?_⟩
      rw [if_neg Bool.false_ne_true, hi]
      refine iteT2 (by decide +kernel) ?_
      exact ⟨_, rfl, q _ _ n1 (dp_mono n1 _ _ de0)⟩
    | .loc n, ex, nm =>
      obtain ⟨a, rfl, ha⟩ := loc_inv de
      refine ⟨_, rfl, a, _, 0, _, rfl, rfl, ha, atI_nat (j := 0) rfl, three, fun t1 h1 => ?_⟩
      have n1 := same_new h1 (.tup [V.str "number", .str "local", .str "variable"])
      refine ⟨_, _, rfl, .inr (SqT.of upd_same), rfl, by decide +kernel, _, rfl, ?_⟩
      rw [if_neg Bool.false_ne_true, hi]
      refine iteT2 (by decide +kernel) ?_
      exact ⟨_, rfl, q _ _ n1 (dp_mono n1 _ _ de0)⟩
    | .var n, ex, nm =>
      obtain ⟨a, rfl, ha⟩ := var_inv de
      refine ⟨_, rfl, a, _, 0, _, rfl, rfl, ha, atI_nat (j := 0) rfl, three, fun t1 h1 => ?_⟩
      have n1 := same_new h1 (.tup [V.str "number", .str "local", .str "variable"])
      refine ⟨_, _, rfl, .inr (SqT.of upd_same), rfl, by decide +kernel, _, rfl, ?_⟩
      rw [if_neg Bool.false_ne_true, hi]
      refine iteT2 (by decide +kernel) ?_
      exact ⟨_, rfl, q _ _ n1 (dp_mono n1 _ _ de0)⟩
    | .has tn x, ex, nm =>
      obtain ⟨a, u, rfl, ha, du⟩ := has_inv de
      refine ⟨_, rfl, a, _, 0, _, rfl, rfl, ha, atI_nat (j := 0) rfl, three, fun t1 h1 => ?_⟩
      have n1 := same_new h1 (.tup [V.str "number", .str "local", .str "variable"])
      refine ⟨_, _, rfl, .inr (SqT.of upd_same), rfl, by decide +kernel, _, rfl, ?_⟩
      rw [if_neg Bool.false_ne_true, hi]
      refine iteF2 (show decide (("has" : Str) ∈ (["number", "local", "variable"] : List Str)) = false by decide +kernel) ?_
      refine ⟨_, rfl, a, _, 0, _, rfl, rfl, sqT_mono n1 ha, atI_nat (j := 0) rfl, two, fun t2 h2 => ?_⟩
      have n2 := n1.trans (same_new h2 (.tup [V.str "has", .str "cell"]))
      refine ⟨_, _, rfl, .inr (SqT.of upd_same), rfl, by decide +kernel, _, rfl, ?_⟩
      rw [if_neg Bool.false_ne_true, hj]
      refine iteT2 (show decide (("has" : Str) ∈ (["has", "cell"] : List Str)) = true by decide +kernel) ?_
      refine ⟨_, rfl, a, _, 0, _, rfl, rfl, sqT_mono n2 ha, atI_nat (j := 0) rfl, _, rfl, _, rfl, a, _, 1, _, rfl, rfl, sqT_mono n2 ha, atI_nat (j := 1) rfl, dd, _, rfl, (hd.grow n2).get nm.1, ?_⟩
      refine ⟨_, rfl, a, _, 2, _, rfl, rfl, sqT_mono n2 ha, atI_nat (j := 2) rfl, _, rfl, u, dd, x, rfl, dp_mono n2 _ _ du, ex.2, nm.2, hd.grow n2, fun u2 H2 m3 d2 => ⟨three, fun t3 h3 => ?_⟩⟩
      exact q _ _ (n2.trans (m3.trans (same_new h3 _))) (dp_tup (ds := [.str "has", .str (f tn), (x.ren f).d]) h3 (.cons (.str _) (.cons (.str _) (.cons d2 .nil))))
    | .cell tn x, ex, nm =>
      obtain ⟨a, u, rfl, ha, du⟩ := cell_inv de
      refine ⟨_, rfl, a, _, 0, _, rfl, rfl, ha, atI_nat (j := 0) rfl, three, fun t1 h1 => ?_⟩
      have n1 := same_new h1 (.tup [V.str "number", .str "local", .str "variable"])
      refine ⟨_, _, rfl, .inr (SqT.of upd_same), rfl, by decide +kernel, _, rfl, ?_⟩
      rw [if_neg Bool.false_ne_true, hi]
      refine iteF2 (show decide (("cell" : Str) ∈ (["number", "local", "variable"] : List Str)) = false by decide +kernel) ?_
      refine ⟨_, rfl, a, _, 0, _, rfl, rfl, sqT_mono n1 ha, atI_nat (j := 0) rfl, two, fun t2 h2 => ?_⟩
      have n2 := n1.trans (same_new h2 (.tup [V.str "has", .str "cell"]))
      refine ⟨_, _, rfl, .inr (SqT.of upd_same), rfl, by decide +kernel, _, rfl, ?_⟩
      rw [if_neg Bool.false_ne_true, hj]
      refine iteT2 (show decide (("cell" : Str) ∈ (["has", "cell"] : List Str)) = true by decide +kernel) ?_
      refine ⟨_, rfl, a, _, 0, _, rfl, rfl, sqT_mono n2 ha, atI_nat (j := 0) rfl, _, rfl, _, rfl, a, _, 1, _, rfl, rfl, sqT_mono n2 ha, atI_nat (j := 1) rfl, dd, _, rfl, (hd.grow n2).get nm.1, ?_⟩
      refine ⟨_, rfl, a, _, 2, _, rfl, rfl, sqT_mono n2 ha, atI_nat (j := 2) rfl, _, rfl, u, dd, x, rfl, dp_mono n2 _ _ du, ex.2, nm.2, hd.grow n2, fun u2 H2 m3 d2 => ⟨three, fun t3 h3 => ?_⟩⟩
      exact q _ _ (n2.trans (m3.trans (same_new h3 _))) (dp_tup (ds := [.str "cell", .str (f tn), (x.ren f).d]) h3 (.cons (.str _) (.cons (.str _) (.cons d2 .nil))))
    | .op o x y, ex, nm =>
      obtain ⟨a, u, z, rfl, ha, du, dz⟩ := op_inv de
      have on : o ∉ (["number", "local", "variable"] : List Str) ∧ o ∉ (["has", "cell"] : List Str) := (by decide +kernel : ∀ o ∈ ops, o ∉ (["number", "local", "variable"] : List Str) ∧ o ∉ (["has", "cell"] : List Str)) o ex.1
      refine ⟨_, rfl, a, _, 0, _, rfl, rfl, ha, atI_nat (j := 0) rfl, three, fun t1 h1 => ?_⟩
      have n1 := same_new h1 (.tup [V.str "number", .str "local", .str "variable"])
      refine ⟨_, _, rfl, .inr (SqT.of upd_same), rfl, by decide +kernel, _, rfl, ?_⟩
      rw [if_neg Bool.false_ne_true, hi]
      refine iteF2 (decide_eq_false on.1) ?_
      refine ⟨_, rfl, a, _, 0, _, rfl, rfl, sqT_mono n1 ha, atI_nat (j := 0) rfl, two, fun t2 h2 => ?_⟩
      have n2 := n1.trans (same_new h2 (.tup [V.str "has", .str "cell"]))
      refine ⟨_, _, rfl, .inr (SqT.of upd_same), rfl, by decide +kernel, _, rfl, ?_⟩
      rw [if_neg Bool.false_ne_true, hj]
      refine iteF2 (decide_eq_false on.2) ?_
      refine ⟨_, rfl, a, _, 0, _, rfl, rfl, sqT_mono n2 ha, atI_nat (j := 0) rfl, _, rfl, a, _, 1, _, rfl, rfl, sqT_mono n2 ha, atI_nat (j := 1) rfl, _, rfl, u, dd, x, rfl, dp_mono n2 _ _ du, ex.2.1, nm.1, hd.grow n2, fun u1 H1 m1 d1 => ?_⟩
      have m2 := n2.trans m1
      refine ⟨_, rfl, a, _, 2, _, rfl, rfl, sqT_mono m2 ha, atI_nat (j := 2) rfl, _, rfl, z, dd, y, rfl, dp_mono m2 _ _ dz, ex.2.2, nm.2, hd.grow m2, fun u2 H2 m3 d2 => ⟨three, fun t3 h3 => ?_⟩⟩
      exact q _ _ (m2.trans (m3.trans (same_new h3 _))) (dp_tup (ds := [.str o, (x.ren f).d, (y.ren f).d]) h3 (.cons (.str _) (.cons (dp_mono m3 _ _ d1) (.cons d2 .nil))))
theorem ok_ab_step (T : Txt K mg file) (f : Str → Str) (N : List Str) (k d : Nat) (spB : Sp) (G_law_alike_block : FnOk P w K mg base CX0 (d + k + 1) T.a_law_alike_block T.fd_law_alike_block ["block", "other"] spB) (hB : ∀ j, d = j + 1 → ∀ vs H Q E, spAB K f N k j vs H Q E → spB vs H Q E) :
    FnOk P w K mg base CX0 (d + k + 2) T.a_law_alike_block T.fd_law_alike_block ["block", "other"] (spAB K f N k d) := by
  have G_law_alike_value : FnOk P w K mg base CX0 (k + 1) T.a_law_alike_value T.fd_law_alike_value ["value", "other"] (spAV K f N k) := ok_av T f N k
  refine T.F_law_alike_block.ok sc_law_alike_block (fun vs H Q E h => ?_) (fun cdv A outer s H vs Q E hr h => ?_)
  · obtain ⟨v, dd, b, rfl, _⟩ := h
    rfl
  obtain ⟨v, dd, b, rfl, dv, bf, bn, hk, hlb, hd, q⟩ := h
  refine ⟨_, (pss_cons (ps_set (i := 2) sc_law_alike_block.nd rfl (Or.inl rfl) (pe_lst pa_nil))
    (pss_cons (ps_for PassesOwn.never rfl (pi_tup (pv 0)) (pg_name (i := 3) sc_law_alike_block.nd rfl (Or.inl rfl))
      (pss_cons (ps_set (i := 4) sc_law_alike_block.nd rfl (Or.inl rfl) (pe_ix ix_tup (pv 3) pe_int (fun _ _ => rfl)))
    (pss_one (ps_if (pt_cmpR op_eq (pv 4) pe_str (nomark _))
      (pss_cons (ps_set (i := 5) sc_law_alike_block.nd rfl (Or.inl rfl) (pe_tup (pa_cons (pe_call G_law_alike_block (hr.mono (by omega)) rfl T.g_law_alike_block T.k_law_alike_block T.b_law_alike_block .nil pass0 (pa_cons (pe_ix ix_tup (pv 3) pe_int (fun _ _ => rfl)) (pa_cons (pv 1) pa_nil))) (pa_cons (pe_call G_law_alike_block (hr.mono (by omega)) rfl T.g_law_alike_block T.k_law_alike_block T.b_law_alike_block .nil pass0 (pa_cons (pe_ix ix_tup (pv 3) pe_int (fun _ _ => rfl)) (pa_cons (pv 1) pa_nil))) pa_nil))))
    (pss_one (ps_expr (pe_bm PySem.F.plainAttrs_list PySem.F.slot_list_append PySem.F.type_list_append mt_append (pv 2) (pa_cons (pe_tup (pa_cons pe_str (pa_cons (pe_call G_law_alike_value (hr.mono (by omega)) rfl T.g_law_alike_value T.k_law_alike_value T.b_law_alike_value .nil pass0 (pa_cons (pe_ix ix_tup (pv 3) pe_int (fun _ _ => rfl)) (pa_cons (pv 1) pa_nil))) (pa_cons (pe_ix ix_tup (pv 5) pe_int (fun _ _ => rfl)) (pa_cons (pe_ix ix_tup (pv 5) pe_int (fun _ _ => rfl)) pa_nil))))) pa_nil)))))
      (pss_one (ps_if (pt_cmpR op_eq (pv 4) pe_str (nomark _))
      (pss_one (ps_expr (pe_bm PySem.F.plainAttrs_list PySem.F.slot_list_append PySem.F.type_list_append mt_append (pv 2) (pa_cons (pe_tup (pa_cons pe_str (pa_cons (pe_call G_law_alike_block (hr.mono (by omega)) rfl T.g_law_alike_block T.k_law_alike_block T.b_law_alike_block .nil pass0 (pa_cons (pe_ix ix_tup (pv 3) pe_int (fun _ _ => rfl)) (pa_cons (pv 1) pa_nil))) pa_nil))) pa_nil))))
      (pss_one (ps_if (pt_cmpR op_eq (pv 4) pe_str (nomark _))
      (pss_cons (ps_set (i := 6) sc_law_alike_block.nd rfl (Or.inl rfl) (pe_tup (pa_cons (pe_call G_law_alike_value (hr.mono (by omega)) rfl T.g_law_alike_value T.k_law_alike_value T.b_law_alike_value .nil pass0 (pa_cons (pe_ix ix_tup (pv 3) pe_int (fun _ _ => rfl)) (pa_cons (pv 1) pa_nil))) (pa_cons (pe_call G_law_alike_value (hr.mono (by omega)) rfl T.g_law_alike_value T.k_law_alike_value T.b_law_alike_value .nil pass0 (pa_cons (pe_ix ix_tup (pv 3) pe_int (fun _ _ => rfl)) (pa_cons (pv 1) pa_nil))) pa_nil))))
    (pss_one (ps_expr (pe_bm PySem.F.plainAttrs_list PySem.F.slot_list_append PySem.F.type_list_append mt_append (pv 2) (pa_cons (pe_op (CatB.op_catB K rfl) (pe_tup (pa_cons pe_str (pa_cons (pe_dget (hu_of hr) (pv 1) (pe_ix ix_tup (pv 3) pe_int (fun _ _ => rfl)) (fun _ _ => rfl)) pa_nil))) (pv 6)) pa_nil)))))
      (pss_one (ps_if (pt_cmpR op_eq (pv 4) pe_str (nomark _))
      (pss_one (ps_expr (pe_bm PySem.F.plainAttrs_list PySem.F.slot_list_append PySem.F.type_list_append mt_append (pv 2) (pa_cons (pe_tup (pa_cons pe_str (pa_cons (pe_ix ix_tup (pv 3) pe_int (fun _ _ => rfl)) (pa_cons (pe_dget (hu_of hr) (pv 1) (pe_ix ix_tup (pv 3) pe_int (fun _ _ => rfl)) (fun _ _ => rfl)) (pa_cons (pe_call G_law_alike_value (hr.mono (by omega)) rfl T.g_law_alike_value T.k_law_alike_value T.b_law_alike_value .nil pass0 (pa_cons (pe_ix ix_tup (pv 3) pe_int (fun _ _ => rfl)) (pa_cons (pv 1) pa_nil))) pa_nil))))) pa_nil))))
      (pss_one (ps_if (pt_cmpR op_in_seq (pv 4) (pe_tup (pa_cons pe_str (pa_cons pe_str pa_nil))) rfl)
      (pss_one (ps_expr (pe_bm PySem.F.plainAttrs_list PySem.F.slot_list_append PySem.F.type_list_append mt_append (pv 2) (pa_cons (pv 3) pa_nil))))
      (pss_one (ps_expr (pe_bm PySem.F.plainAttrs_list PySem.F.slot_list_append PySem.F.type_list_append mt_append (pv 2) (pa_cons (pe_op (CatB.op_catB K rfl) (pe_slice (slTB K rfl) (pv 3) po_none (po_some pe_int)) (pe_tup (pa_cons (pe_call G_law_alike_value (hr.mono (by omega)) rfl T.g_law_alike_value T.k_law_alike_value T.b_law_alike_value .nil pass0 (pa_cons (pe_ix ix_tup (pv 3) pe_int (fun _ _ => rfl)) (pa_cons (pv 1) pa_nil))) pa_nil))) pa_nil))))))))))))))))
    (pss_one (ps_ret (pe_callTy call_tuple_of (by rfl) T.z_tuple (by decide +kernel) (pa_cons (pv 2) pa_nil)))))), ?_⟩
  have two : (2 : Nat) ≤ sizeLine := by decide
  have four : (4 : Nat) ≤ sizeLine := by decide
  have hi : ∀ x : Str, inV (.str x) [.str "bad", .str "draw"] = decide (x ∈ (["bad", "draw"] : List Str)) := fun x => Pz.inV_strs x ["bad", "draw"]
  unfold Blk.d at dv
  obtain ⟨a, xs, rfl, ha, dxs⟩ := dp_inv dv
  rw [Blk.ds_l] at dxs
  have lx : xs.length = b.l.length := (DpAll.len dxs).trans (List.length_map _)
  refine ⟨by show 0 ≤ sizeLine; decide, fun L hL => ?_⟩
  have m0 := same_new hL (.lst [])
  refine ⟨_, rfl, a, rfl, ⟨_, sqT_mono m0 ha⟩, ?_⟩
  refine for_tup (K := K) (a := a) (xs := xs) (fun i σ H' => AbI K H a dd ((b.l.take i).map (Stm.ren f)) σ H') ⟨L, [], none, none, none, none, rfl, Acc.start hL⟩ (fun i σ H' _ ⟨_, _, _, _, _, _, _, ac⟩ => sqT_mono ac.s ha) ?_ ?_
  · rintro i x σ H1 hx ⟨L, vs, y3, y4, y5, y6, rfl, ac⟩
    have hi' := (List.getElem?_eq_some_iff.mp hx).1
    obtain ⟨st, es⟩ : ∃ st, b.l[i]? = some st := ⟨b.l[i]'(lx ▸ hi'), List.getElem?_eq_getElem _⟩
    obtain ⟨x', ex, dst⟩ := DpAll.get dxs (show (b.l.map Stm.d)[i]? = some st.d by rw [List.getElem?_map, es]; rfl)
    rw [hx] at ex
    cases ex
    have hm := List.mem_of_getElem? es
    have fs := blF.l bf st hm
    have ns := Blk.nm_l bn st hm
    have dst1 := dp_mono ac.s _ _ dst
    have dst0 := dst1
    have l1 := ac.len
    rw [List.length_map, List.length_map, List.length_take] at l1
    have hlen : vs.length < sizeLine := Nat.lt_of_le_of_lt (show vs.length ≤ 900 by omega) (by decide)
    rw [take_more es, List.map_append, show [st].map (Stm.ren f) = [st.ren f] from rfl]
    generalize hS : ((b.l.take i).map (Stm.ren f)) = S at ac l1 ⊢
    have hd := hd.grow ac.s
    obtain ⟨xa, rr, rfl, hxa, dr⟩ := stm_inv dst1
    refine ⟨_, rfl, xa, _, 0, _, rfl, rfl, hxa, atI_nat (j := 0) rfl, ?_⟩
    refine ⟨_, rfl, rfl, _, rfl, ?_⟩
    cases st with
    | ite t fa fb =>
      refine iteT2 (decide_eq_true rfl) ?_
      obtain ⟨v1, _, rfl, d1, dr1⟩ := dps_cons dr
      obtain ⟨v2, _, rfl, d2, dr2⟩ := dps_cons dr1
      obtain ⟨v3, _, rfl, d3, dr3⟩ := dps_cons dr2
      have e0 := dps_nil dr3
      subst e0
      obtain ⟨j, ft, f1, f2, n1, n2, rfl⟩ : ∃ j, exF k t ∧ blF k j fa ∧ blF k j fb ∧ fa.len ≤ 350 ∧ fb.len ≤ 350 ∧ d = j + 1 := by
        cases d with
        | zero => unfold stF at fs; exact fs.elim
        | succ d => unfold stF at fs; exact ⟨d, fs.1, fs.2.1, fs.2.2.1, by omega, by omega, rfl⟩
      unfold Stm.Nm at ns
      refine ⟨_, rfl, xa, _, 2, _, rfl, rfl, hxa, atI_nat (j := 2) rfl, _, rfl, hB j rfl _ _ _ _ ⟨v2, dd, fa, rfl, d2, f1, ns.2.1, hk, by rw [Blk.len_l]; omega, hd, fun u2 H2 m2 du2 => ?_⟩⟩
      refine ⟨_, rfl, xa, _, 3, _, rfl, rfl, sqT_mono m2 hxa, atI_nat (j := 3) rfl, _, rfl, hB j rfl _ _ _ _ ⟨v3, dd, fb, rfl, dp_mono m2 _ _ d3, f2, ns.2.2, hk, by rw [Blk.len_l]; omega, hd.grow m2, fun u3 H3 m3 du3 => ⟨two, fun tp htp => ?_⟩⟩⟩
      have m5 := same_new htp (.tup [u2, u3])
      have m25 := m2.trans (m3.trans m5)
      have htp' : SqT K (upd H3 tp (.tup [u2, u3])) tp [u2, u3] := SqT.of upd_same
      have D2 := dp_mono (m3.trans m5) _ _ du2
      have D3 := dp_mono m5 _ _ du3
      revert m25 htp' D2 D3
      generalize upd H3 tp (.tup [u2, u3]) = H4
      intro m25 htp' D2 D3
      refine ⟨_, rfl, .inl ⟨rfl, _, SqL.of (m25 _ _ ac.l)⟩, _, rfl, xa, _, 1, _, rfl, rfl, sqT_mono m25 hxa, atI_nat (j := 1) rfl, _, rfl, v1, dd, t, rfl, dp_mono m25 _ _ d1, ft, ns.1, hd.grow m25, fun u1 H5 m6 du1 => ?_⟩
      refine ⟨_, rfl, tp, _, 0, _, rfl, rfl, sqT_mono m6 htp', atI_nat (j := 0) rfl, _, rfl, tp, _, 1, _, rfl, rfl, sqT_mono m6 htp', atI_nat (j := 1) rfl, four, fun t4 h4 => ?_⟩
      have n1 := m25.trans (m6.trans (same_new h4 (.tup [V.str "if", u1, u2, u3])))
      refine ⟨L, vs, _, rfl, rfl, n1 _ _ ac.l, hlen, ab_app (s := (Stm.ite t fa fb).ren f) ac n1 ?_⟩
      unfold Stm.ren Stm.d
      exact dp_tup (ds := [.str "if", (t.ren f).d, (fa.ren f).d, (fb.ren f).d]) h4 (.cons (.str _) (.cons du1 (.cons (dp_mono m6 _ _ D2) (.cons (dp_mono m6 _ _ D3) .nil))))
    | after fa =>
      refine iteF2 (show decide (V.str "after" = V.str "if") = false by decide +kernel) ⟨_, rfl, rfl, _, rfl, ?_⟩
      refine iteT2 (decide_eq_true rfl) ?_
      obtain ⟨v1, _, rfl, d1, dr1⟩ := dps_cons dr
      have e0 := dps_nil dr1
      subst e0
      obtain ⟨j, f1, n1, rfl⟩ : ∃ j, blF k j fa ∧ fa.len ≤ 350 ∧ d = j + 1 := by
        cases d with
        | zero => unfold stF at fs; exact fs.elim
        | succ d => unfold stF at fs; exact ⟨d, fs.1, by omega, rfl⟩
      unfold Stm.Nm at ns
      refine ⟨_, rfl, .inl ⟨rfl, _, SqL.of ac.l⟩, _, rfl, xa, _, 1, _, rfl, rfl, hxa, atI_nat (j := 1) rfl, _, rfl, hB j rfl _ _ _ _ ⟨v1, dd, fa, rfl, d1, f1, ns, hk, by rw [Blk.len_l]; omega, hd, fun u2 H2 m2 du2 => ⟨two, fun t4 h4 => ?_⟩⟩⟩
      have n1 := m2.trans (same_new h4 (.tup [V.str "after", u2]))
      refine ⟨L, vs, _, rfl, rfl, n1 _ _ ac.l, hlen, ab_app (s := (Stm.after fa).ren f) ac n1 ?_⟩
      unfold Stm.ren Stm.d
      exact dp_tup (ds := [.str "after", (fa.ren f).d]) h4 (.cons (.str _) (.cons du2 .nil))
    | put tn e g =>
      refine iteF2 (show decide (V.str "put" = V.str "if") = false by decide +kernel) ⟨_, rfl, rfl, _, rfl, ?_⟩
      refine iteF2 (show decide (V.str "put" = V.str "after") = false by decide +kernel) ⟨_, rfl, rfl, _, rfl, ?_⟩
      refine iteT2 (decide_eq_true rfl) ?_
      obtain ⟨v1, _, rfl, d1, dr1⟩ := dps_cons dr
      obtain ⟨v2, _, rfl, d2, dr2⟩ := dps_cons dr1
      obtain ⟨v3, _, rfl, d3, dr3⟩ := dps_cons dr2
      have e0 := dps_nil dr3
      subst e0
      have es1 := dp_s d1
      subst es1
      unfold stF at fs
      unfold Stm.Nm at ns
      refine ⟨_, rfl, xa, _, 2, _, rfl, rfl, hxa, atI_nat (j := 2) rfl, _, rfl, v2, dd, e, rfl, d2, fs.2.1, ns.2.1, hd, fun u2 H2 m2 du2 => ?_⟩
      refine ⟨_, rfl, xa, _, 3, _, rfl, rfl, sqT_mono m2 hxa, atI_nat (j := 3) rfl, _, rfl, v3, dd, g, rfl, dp_mono m2 _ _ d3, fs.2.2, ns.2.2, hd.grow m2, fun u3 H3 m3 du3 => ⟨two, fun tp htp => ?_⟩⟩
      have m5 := same_new htp (.tup [u2, u3])
      have m25 := m2.trans (m3.trans m5)
      have htp' : SqT K (upd H3 tp (.tup [u2, u3])) tp [u2, u3] := SqT.of upd_same
      have D2 := dp_mono (m3.trans m5) _ _ du2
      have D3 := dp_mono m5 _ _ du3
      revert m25 htp' D2 D3
      generalize upd H3 tp (.tup [u2, u3]) = H4
      intro m25 htp' D2 D3
      refine ⟨_, rfl, .inl ⟨rfl, _, SqL.of (m25 _ _ ac.l)⟩, _, rfl, _, rfl, xa, _, 1, _, rfl, rfl, sqT_mono m25 hxa, atI_nat (j := 1) rfl, dd, _, rfl, (hd.grow m25).get ns.1, two, fun t4 h4 => ?_⟩
      have m6 := same_new h4 (.tup [V.str "put", .str (f tn)])
      refine ⟨_, rfl, t4, tp, _, _, rfl, rfl, SqT.of upd_same, sqT_mono m6 htp', by show 2 + 2 ≤ sizeLine; decide, fun pn H5 m7 hpn => ?_⟩
      have n1 := m25.trans (m6.trans m7)
      refine ⟨L, vs, _, rfl, rfl, n1 _ _ ac.l, hlen, ab_app (s := (Stm.put tn e g).ren f) ac n1 ?_⟩
      unfold Stm.ren
      show Dp K H5 (.ref pn) (.tuple [.str "put", .str (f tn), (e.ren f).d, (g.ren f).d])
      exact .tup hpn (.cons (.str _) (.cons (.str _) (.cons (dp_mono (m6.trans m7) _ _ D2) (.cons (dp_mono (m6.trans m7) _ _ D3) .nil))))
    | lot l o e =>
      refine iteF2 (show decide (V.str "lot" = V.str "if") = false by decide +kernel) ⟨_, rfl, rfl, _, rfl, ?_⟩
      refine iteF2 (show decide (V.str "lot" = V.str "after") = false by decide +kernel) ⟨_, rfl, rfl, _, rfl, ?_⟩
      refine iteF2 (show decide (V.str "lot" = V.str "put") = false by decide +kernel) ⟨_, rfl, rfl, _, rfl, ?_⟩
      refine iteT2 (decide_eq_true rfl) ?_
      obtain ⟨v1, _, rfl, d1, dr1⟩ := dps_cons dr
      obtain ⟨v2, _, rfl, d2, dr2⟩ := dps_cons dr1
      obtain ⟨v3, _, rfl, d3, dr3⟩ := dps_cons dr2
      have e0 := dps_nil dr3
      subst e0
      have es1 := dp_s d1
      subst es1
      have es2 := dp_s d2
      subst es2
      unfold stF at fs
      unfold Stm.Nm at ns
      refine ⟨_, rfl, .inl ⟨rfl, _, SqL.of ac.l⟩, _, rfl, xa, _, 1, _, rfl, rfl, hxa, atI_nat (j := 1) rfl, _, rfl, _, rfl, xa, _, 2, _, rfl, rfl, hxa, atI_nat (j := 2) rfl, dd, _, rfl, hd.get ns.1, ?_⟩
      refine ⟨_, rfl, xa, _, 3, _, rfl, rfl, hxa, atI_nat (j := 3) rfl, _, rfl, v3, dd, e, rfl, d3, fs.2.2, ns.2, hd, fun u2 H2 m2 du2 => ⟨four, fun t4 h4 => ?_⟩⟩
      have n1 := m2.trans (same_new h4 (.tup [V.str "lot", .str l, .str (f o), u2]))
      refine ⟨L, vs, _, rfl, rfl, n1 _ _ ac.l, hlen, ab_app (s := (Stm.lot l o e).ren f) ac n1 ?_⟩
      unfold Stm.ren
      exact dp_tup (ds := [.str "lot", .str l, .str (f o), (e.ren f).d]) h4 (.cons (.str _) (.cons (.str _) (.cons (.str _) (.cons du2 .nil))))
    | bad =>
      refine iteF2 (show decide (V.str "bad" = V.str "if") = false by decide +kernel) ⟨_, rfl, rfl, _, rfl, ?_⟩
      refine iteF2 (show decide (V.str "bad" = V.str "after") = false by decide +kernel) ⟨_, rfl, rfl, _, rfl, ?_⟩
      refine iteF2 (show decide (V.str "bad" = V.str "put") = false by decide +kernel) ⟨_, rfl, rfl, _, rfl, ?_⟩
      refine iteF2 (show decide (V.str "bad" = V.str "lot") = false by decide +kernel) ?_
      refine ⟨_, rfl, two, fun t1 h1 => ?_⟩
      have m1 := same_new h1 (.tup [V.str "bad", .str "draw"])
      refine ⟨_, _, rfl, .inr (SqT.of upd_same), rfl, by decide +kernel, _, rfl, ?_⟩
      rw [if_neg Bool.false_ne_true, hi]
      refine iteT2 (show decide (("bad" : Str) ∈ (["bad", "draw"] : List Str)) = true by decide +kernel) ?_
      refine ⟨_, rfl, .inl ⟨rfl, _, SqL.of (m1 _ _ ac.l)⟩, _, rfl, L, vs, _, rfl, rfl, m1 _ _ ac.l, hlen, ab_app (s := (Stm.bad).ren f) ac m1 ?_⟩
      unfold Stm.ren
      exact dp_mono m1 _ _ dst0
    | draw l n =>
      refine iteF2 (show decide (V.str "draw" = V.str "if") = false by decide +kernel) ⟨_, rfl, rfl, _, rfl, ?_⟩
      refine iteF2 (show decide (V.str "draw" = V.str "after") = false by decide +kernel) ⟨_, rfl, rfl, _, rfl, ?_⟩
      refine iteF2 (show decide (V.str "draw" = V.str "put") = false by decide +kernel) ⟨_, rfl, rfl, _, rfl, ?_⟩
      refine iteF2 (show decide (V.str "draw" = V.str "lot") = false by decide +kernel) ?_
      refine ⟨_, rfl, two, fun t1 h1 => ?_⟩
      have m1 := same_new h1 (.tup [V.str "bad", .str "draw"])
      refine ⟨_, _, rfl, .inr (SqT.of upd_same), rfl, by decide +kernel, _, rfl, ?_⟩
      rw [if_neg Bool.false_ne_true, hi]
      refine iteT2 (show decide (("draw" : Str) ∈ (["bad", "draw"] : List Str)) = true by decide +kernel) ?_
      refine ⟨_, rfl, .inl ⟨rfl, _, SqL.of (m1 _ _ ac.l)⟩, _, rfl, L, vs, _, rfl, rfl, m1 _ _ ac.l, hlen, ab_app (s := (Stm.draw l n).ren f) ac m1 ?_⟩
      unfold Stm.ren
      exact dp_mono m1 _ _ dst0
    | set y e =>
      refine iteF2 (show decide (V.str "set" = V.str "if") = false by decide +kernel) ⟨_, rfl, rfl, _, rfl, ?_⟩
      refine iteF2 (show decide (V.str "set" = V.str "after") = false by decide +kernel) ⟨_, rfl, rfl, _, rfl, ?_⟩
      refine iteF2 (show decide (V.str "set" = V.str "put") = false by decide +kernel) ⟨_, rfl, rfl, _, rfl, ?_⟩
      refine iteF2 (show decide (V.str "set" = V.str "lot") = false by decide +kernel) ?_
      refine ⟨_, rfl, two, fun t1 h1 => ?_⟩
      have m1 := same_new h1 (.tup [V.str "bad", .str "draw"])
      refine ⟨_, _, rfl, .inr (SqT.of upd_same), rfl, by decide +kernel, _, rfl, ?_⟩
      rw [if_neg Bool.false_ne_true, hi]
      refine iteF2 (show decide (("set" : Str) ∈ (["bad", "draw"] : List Str)) = false by decide +kernel) ?_
      obtain ⟨v1, _, rfl, d1, dr1⟩ := dps_cons dr
      obtain ⟨v2, _, rfl, d2, dr2⟩ := dps_cons dr1
      have e0 := dps_nil dr2
      subst e0
      have es1 := dp_s d1
      subst es1
      unfold stF at fs
      unfold Stm.Nm at ns
      refine ⟨_, rfl, .inl ⟨rfl, _, SqL.of (m1 _ _ ac.l)⟩, _, rfl, _, rfl, xa, _, rfl, sqT_mono m1 hxa, fun c1 H3 m3 hc1 => ?_⟩
      have m13 := m1.trans m3
      refine ⟨_, rfl, xa, _, 2, _, rfl, rfl, sqT_mono m13 hxa, atI_nat (j := 2) rfl, _, rfl, v2, dd, e, rfl, dp_mono m13 _ _ d2, fs.2, ns, hd.grow m13, fun u2 H4 m4 du2 => ⟨by show 1 ≤ sizeLine; decide, fun t4 h4 => ?_⟩⟩
      have n1 := same_new h4 (.tup [u2])
      refine ⟨c1, t4, _, _, rfl, rfl, sqT_mono (m4.trans n1) hc1, SqT.of upd_same, by show 2 + 1 ≤ sizeLine; decide, fun pn H5 m5 hpn => ?_⟩
      have m15 := m13.trans (m4.trans (n1.trans m5))
      refine ⟨L, vs, _, rfl, rfl, m15 _ _ ac.l, hlen, ab_app (s := (Stm.set y e).ren f) ac m15 ?_⟩
      unfold Stm.ren
      show Dp K H5 (.ref pn) (.tuple [.str "set", .str y, (e.ren f).d])
      exact .tup hpn (.cons (.str _) (.cons (.str _) (.cons (dp_mono (n1.trans m5) _ _ du2) .nil)))
    | lt y e =>
      refine iteF2 (show decide (V.str "let" = V.str "if") = false by decide +kernel) ⟨_, rfl, rfl, _, rfl, ?_⟩
      refine iteF2 (show decide (V.str "let" = V.str "after") = false by decide +kernel) ⟨_, rfl, rfl, _, rfl, ?_⟩
      refine iteF2 (show decide (V.str "let" = V.str "put") = false by decide +kernel) ⟨_, rfl, rfl, _, rfl, ?_⟩
      refine iteF2 (show decide (V.str "let" = V.str "lot") = false by decide +kernel) ?_
      refine ⟨_, rfl, two, fun t1 h1 => ?_⟩
      have m1 := same_new h1 (.tup [V.str "bad", .str "draw"])
      refine ⟨_, _, rfl, .inr (SqT.of upd_same), rfl, by decide +kernel, _, rfl, ?_⟩
      rw [if_neg Bool.false_ne_true, hi]
      refine iteF2 (show decide (("let" : Str) ∈ (["bad", "draw"] : List Str)) = false by decide +kernel) ?_
      obtain ⟨v1, _, rfl, d1, dr1⟩ := dps_cons dr
      obtain ⟨v2, _, rfl, d2, dr2⟩ := dps_cons dr1
      have e0 := dps_nil dr2
      subst e0
      have es1 := dp_s d1
      subst es1
      unfold stF at fs
      unfold Stm.Nm at ns
      refine ⟨_, rfl, .inl ⟨rfl, _, SqL.of (m1 _ _ ac.l)⟩, _, rfl, _, rfl, xa, _, rfl, sqT_mono m1 hxa, fun c1 H3 m3 hc1 => ?_⟩
      have m13 := m1.trans m3
      refine ⟨_, rfl, xa, _, 2, _, rfl, rfl, sqT_mono m13 hxa, atI_nat (j := 2) rfl, _, rfl, v2, dd, e, rfl, dp_mono m13 _ _ d2, fs.2, ns, hd.grow m13, fun u2 H4 m4 du2 => ⟨by show 1 ≤ sizeLine; decide, fun t4 h4 => ?_⟩⟩
      have n1 := same_new h4 (.tup [u2])
      refine ⟨c1, t4, _, _, rfl, rfl, sqT_mono (m4.trans n1) hc1, SqT.of upd_same, by show 2 + 1 ≤ sizeLine; decide, fun pn H5 m5 hpn => ?_⟩
      have m15 := m13.trans (m4.trans (n1.trans m5))
      refine ⟨L, vs, _, rfl, rfl, m15 _ _ ac.l, hlen, ab_app (s := (Stm.lt y e).ren f) ac m15 ?_⟩
      unfold Stm.ren
      show Dp K H5 (.ref pn) (.tuple [.str "let", .str y, (e.ren f).d])
      exact .tup hpn (.cons (.str _) (.cons (.str _) (.cons (dp_mono (n1.trans m5) _ _ du2) .nil)))
    | ask l o e => unfold Stm.Nm at ns; exact ns.elim
  · rintro σ H1 ⟨L, vs, y3, y4, y5, y6, rfl, ac⟩
    rw [lx, List.take_length, ← Blk.ren_l, ← Blk.ds_l] at ac
    refine ⟨_, rfl, L, vs, rfl, .inl ⟨SqL.of ac.l, fun tp htp => ?_⟩⟩
    exact q _ _ (ac.s.trans (same_new htp _)) (dp_tup htp ac.d)
theorem ok_ab (T : Txt K mg file) (f : Str → Str) (N : List Str) (k : Nat) : ∀ d : Nat, FnOk P w K mg base CX0 (d + k + 2) T.a_law_alike_block T.fd_law_alike_block ["block", "other"] (spAB K f N k d)
  | 0 => ok_ab_step T f N k 0 (fun _ _ _ _ => False) ⟨fun _ _ _ _ h => h.elim, fun _ _ _ _ _ _ _ _ _ _ _ _ _ h => h.elim⟩ (fun j h => absurd h (by omega))
  | d + 1 => ok_ab_step T f N k (d + 1) _ ((ok_ab T f N k d).mono (by omega)) (fun j h vs H Q E q => by
      obtain rfl : d = j := by omega
      exact q)
end
end Toy
set_option Elab.async false
set_option linter.all false
set_option maxRecDepth 100000
set_option maxHeartbeats 8000000
namespace Toy
open PySem L2 NdefX Gm
open Mine hiding same_new
def kv0 : List (Str × Str) := [("t", "x"), ("m", "y"), ("o", "x"), ("k", "y"), ("p", "x"), ("r", "y")]
def kv1 : List (Str × Str) := [("t", "a"), ("m", "b"), ("o", "a"), ("k", "b"), ("p", "a"), ("r", "g")]
def dicF (kvs : List (Str × Str)) (x : Str) : Str := ((kvs.find? fun p => decide (p.1 = x)).map (·.2)).getD x
def kvK (kvs : List (Str × Str)) : List (Key × V) := kvs.map fun p => (.inr p.1, .str p.2)
def rowR (f : Str → Str) (t : Str × Int × Int) : Str × Int × Int := (f t.1, t.2)
def _root_.Gm.Pr.ren (f : Str → Str) (p : Pr) : Pr := { p with name := f p.name, block := p.block.ren f, res := p.res.ren f }
def _root_.Gm.Ga.ren (f : Str → Str) (G : Ga) : Ga := ⟨G.vars, G.tabs.map (rowR f), G.lots.map (rowR f), G.procs.map (Pr.ren f)⟩
structure AlOk (G : Ga) (k d : Nat) : Prop where
  p : ∀ p ∈ G.procs, p.name ∈ N6 ∧ p.block.Nm N6 ∧ p.res.Nm N6 ∧ p.block.l.length ≤ 900 ∧ blF k d p.block ∧ exF k p.res
  n : G.procs.length ≤ 900 ∧ G.tabs.length ≤ 900 ∧ G.lots.length ≤ 900
  t : ∀ t ∈ G.tabs, t.1 ∈ N6
  l : ∀ t ∈ G.lots, t.1 ∈ N6
def spAlike (K : PySem.W.Frag) (k d : Nat) : Sp := fun vs H Q _ => ∃ (v : V) (way : Int) (G : Ga), vs = [v, .int way] ∧ Dp K H v G.d ∧ k ≤ 6 ∧ AlOk G k d ∧ ∀ (f : Str → Str) (u : V) (H' : Hp), f = dicF kv0 ∨ f = dicF kv1 → Same H H' → Dp K H' u (G.ren f).d → Q u H'
theorem kv_get {H : Hp} {d : Addr} {kvs : List (Str × Str)} (h : H d = some (.dK (mergeK [] (kvK kvs)))) (hk : kvs = kv0 ∨ kvs = kv1) : DcN H d (dicF kvs) N6 := by
  refine ⟨⟨_, h⟩, fun x hx H' m => .inl ⟨_, .inr x, .inl (m _ _ h), rfl, ?_⟩⟩
  unfold N6 at hx
  simp only [List.mem_cons, List.not_mem_nil, or_false] at hx
  rcases hk with rfl | rfl <;> rcases hx with rfl | rfl | rfl | rfl | rfl | rfl <;> kernel_rfl
theorem fnEx {P : Program} {w : World} {K : PySem.W.Frag} {mg : Str → Option Value} {base : Heap} {n : Nat} {a : Addr} {fd : FuncData} {ps : List Str} {α : Type} {sp : α → Sp} (F : ∀ f, FnOk P w K mg base CX0 n a fd ps (sp f)) : FnOk P w K mg base CX0 n a fd ps (fun vs H Q E => ∃ f, sp f vs H Q E) :=
  ⟨fun vs H Q E ⟨f, h⟩ => (F f).1 vs H Q E h, fun x1 x2 x3 x4 x5 x6 x7 x8 x9 x10 x11 x12 x13 ⟨f, h⟩ => (F f).2 x1 x2 x3 x4 x5 x6 x7 x8 x9 x10 x11 x12 x13 h⟩
section
variable {P : Program} {w : World} {K : PySem.W.Frag} {mg : Str → Option Value} {base : Heap} {file : Str}
theorem ok_alike (T : Txt K mg file) (k d : Nat) : FnOk P w K mg base CX0 (d + k + 3) T.a_law_alike T.fd_law_alike ["game", "way"] (spAlike K k d) := by
  have G_law_alike_block : FnOk P w K mg base CX0 (d + k + 2) T.a_law_alike_block T.fd_law_alike_block ["block", "other"] (fun vs H Q E => ∃ f, spAB K f N6 k d vs H Q E) := fnEx fun f => ok_ab T f N6 k d
  have G_law_alike_value : FnOk P w K mg base CX0 (k + 1) T.a_law_alike_value T.fd_law_alike_value ["value", "other"] (fun vs H Q E => ∃ f, spAV K f N6 k vs H Q E) := fnEx fun f => ok_av T f N6 k
  refine T.F_law_alike.ok sc_law_alike (fun vs H Q E h => ?_) (fun cdv A outer s H vs Q E hr h => ?_)
  · obtain ⟨v, way, G, rfl, _⟩ := h
    rfl
  obtain ⟨v, way, G, rfl, dG, hk, ok, q⟩ := h
  refine ⟨_, (pss_cons (ps_set (i := 2) sc_law_alike.nd rfl (Or.inr rfl) (pe_disp (pps_cons pe_str pe_str (pps_cons pe_str pe_str (pps_cons pe_str pe_str (pps_cons pe_str pe_str (pps_cons pe_str pe_str (pps_cons pe_str pe_str pps_nil)))))) (by rfl) (by rfl) (fun z => by cases z) (by decide)))
    (pss_cons (ps_if (pt_cmpR op_eq (pv 1) pe_int (nomark _))
      (pss_one (ps_set (i := 2) sc_law_alike.nd rfl (Or.inr rfl) (pe_disp (pps_cons pe_str pe_str (pps_cons pe_str pe_str (pps_cons pe_str pe_str (pps_cons pe_str pe_str (pps_cons pe_str pe_str (pps_cons pe_str pe_str pps_nil)))))) (by rfl) (by rfl) (fun z => by cases z) (by decide))))
      pss_nil)
    (pss_cons (ps_set (i := 3) sc_law_alike.nd rfl (Or.inl rfl) (pe_lst pa_nil))
    (pss_cons (ps_for PassesOwn.never rfl (pi_tup (pe_ix ix_tup (pv 0) pe_int (fun _ _ => rfl))) (pg_name (i := 4) sc_law_alike.nd rfl (Or.inl rfl))
      (pss_one (ps_expr (pe_bm PySem.F.plainAttrs_list PySem.F.slot_list_append PySem.F.type_list_append mt_append (pv 3) (pa_cons (pe_op (CatB.op_catB K rfl) (pe_op (CatB.op_catB K rfl) (pe_tup (pa_cons (pe_dget (hu_of hr) (pv 2) (pe_ix ix_tup (pv 4) pe_int (fun _ _ => rfl)) (fun _ _ => rfl)) pa_nil)) (pe_slice (slTB K rfl) (pv 4) (po_some pe_int) (po_some pe_int))) (pe_tup (pa_cons (pe_call G_law_alike_block (hr.mono (by omega)) rfl T.g_law_alike_block T.k_law_alike_block T.b_law_alike_block .nil pass0 (pa_cons (pe_ix ix_tup (pv 4) pe_int (fun _ _ => rfl)) (pa_cons (pv 2) pa_nil))) (pa_cons (pe_call G_law_alike_value (hr.mono (by omega)) rfl T.g_law_alike_value T.k_law_alike_value T.b_law_alike_value .nil pass0 (pa_cons (pe_ix ix_tup (pv 4) pe_int (fun _ _ => rfl)) (pa_cons (pv 2) pa_nil))) pa_nil)))) pa_nil)))))
    (pss_cons (ps_set (i := 5) sc_law_alike.nd rfl (Or.inl rfl) (pe_callTy call_tuple_of (by rfl) T.z_tuple (by decide +kernel) (pa_cons (pe_lc (own := [("row", 6)]) (g := gName 6) (tt := tYes) rfl sc_law_alike.nd (pi_tup (pe_ix ix_tup (pv 0) pe_int (fun _ _ => rfl))) (blkOk_by (own := [("row", 6)]) (N := ["game", "way", "other", "procs", "proc", "tables", "row", "lots"]) (sc := defScope s_law_alike) (by decide +kernel)) (fun _ _ _ _ _ => pg_name (i := 6) sc_law_alike.nd rfl (Or.inl rfl)) (fun _ _ _ _ _ => pts_nil) (fun _ _ _ _ _ => (pe_op (CatB.op_catB K rfl) (pe_tup (pa_cons (pe_dget (hu_of hr) (pv 2) (pe_ix (ixtK K rfl) (pv 6) pe_int (fun _ _ => rfl)) (fun _ _ => rfl)) pa_nil)) (pe_slice (slTB K rfl) (pv 6) (po_some pe_int) po_none)))) pa_nil)))
    (pss_cons (ps_set (i := 7) sc_law_alike.nd rfl (Or.inl rfl) (pe_callTy call_tuple_of (by rfl) T.z_tuple (by decide +kernel) (pa_cons (pe_lc (own := [("row", 6)]) (g := gName 6) (tt := tYes) rfl sc_law_alike.nd (pi_tup (pe_ix ix_tup (pv 0) pe_int (fun _ _ => rfl))) (blkOk_by (own := [("row", 6)]) (N := ["game", "way", "other", "procs", "proc", "tables", "row", "lots"]) (sc := defScope s_law_alike) (by decide +kernel)) (fun _ _ _ _ _ => pg_name (i := 6) sc_law_alike.nd rfl (Or.inl rfl)) (fun _ _ _ _ _ => pts_nil) (fun _ _ _ _ _ => (pe_op (CatB.op_catB K rfl) (pe_tup (pa_cons (pe_dget (hu_of hr) (pv 2) (pe_ix (ixtK K rfl) (pv 6) pe_int (fun _ _ => rfl)) (fun _ _ => rfl)) pa_nil)) (pe_slice (slTB K rfl) (pv 6) (po_some pe_int) po_none)))) pa_nil)))
    (pss_one (ps_ret (pe_tup (pa_cons (pe_ix ix_tup (pv 0) pe_int (fun _ _ => rfl)) (pa_cons (pv 5) (pa_cons (pv 7) (pa_cons (pe_callTy call_tuple_of (by rfl) T.z_tuple (by decide +kernel) (pa_cons (pv 3) pa_nil)) pa_nil))))))))))))), ?_⟩
  have one : (1 : Nat) ≤ sizeLine := by decide
  have two : (2 : Nat) ≤ sizeLine := by decide
  have four : (4 : Nat) ≤ sizeLine := by decide
  obtain ⟨ga, u1, u2, u3, pa, ps, rfl, hga, dg1, dg2, dg3, hpa, dps⟩ := ga_inv dG
  obtain ⟨ta, ts, rfl, hta, dts⟩ := trips_inv dg2
  obtain ⟨lo, ls, rfl, hlo, dls⟩ := trips_inv dg3
  have lps : ps.length = G.procs.length := (DpAll.len dps).trans (List.length_map _)
  have lts : ts.length = G.tabs.length := (DpAll.len dts).trans (List.length_map _)
  have lls : ls.length = G.lots.length := (DpAll.len dls).trans (List.length_map _)
  have mk : ∀ (H0 : Hp) (p : Addr) (kvs : List (Key × V)), H0 p = none → Same H0 (upd (upd H0 p (.dK [])) p (.dK kvs)) := fun H0 p kvs hp b o e => by rw [upd_ne (ne_of_none e hp), upd_ne (ne_of_none e hp)]; exact e
  refine fun d1 hd1 => ⟨upd_same, kvK kv0, rfl, by decide, ?_⟩
  refine gn ?_
  dsimp only
  have m1 := mk H d1 (mergeK [] (kvK kv0)) hd1
  have c1 : DcN _ d1 (dicF kv0) N6 := kv_get (kvs := kv0) (H := upd (upd H d1 (.dK [])) d1 (.dK (mergeK [] (kvK kv0)))) upd_same (.inl rfl)
  revert m1 c1
  generalize upd (upd H d1 (.dK [])) d1 (.dK (mergeK [] (kvK kv0))) = H1
  intro m1 c1
  refine seq_k (fun σ H' => ∃ (dd : Addr) (f : Str → Str), σ = [some (.ref ga), some (.int way), some (.ref dd), none, none, none, none, none] ∧ Same H H' ∧ DcN H' dd f N6 ∧ (f = dicF kv0 ∨ f = dicF kv1)) ?_ (fun kk => ?_)
  rotate_left
  · refine ⟨_, rfl, rfl, _, rfl, ite2 (fun _ => ?_) (fun _ => ?_)⟩
    · refine fun d2 hd2 => ⟨upd_same, kvK kv1, rfl, by decide, kk _ _ ⟨d2, dicF kv1, rfl, m1.trans (mk H1 d2 _ hd2), kv_get (kvs := kv1) upd_same (.inr rfl), .inr rfl⟩⟩
    · exact kk _ _ ⟨d1, dicF kv0, rfl, m1, c1, .inl rfl⟩
  clear m1 c1 hd1
  rintro σ H1 ⟨dd, f, rfl, m1, hd, hf⟩
  refine ⟨by show 0 ≤ sizeLine; decide, fun L hL => ?_⟩
  have m2 := same_new hL (.lst [])
  have hga1 := sqT_mono m1 hga
  have hpa1 := sqT_mono m1 hpa
  have dps1 := dp_monoAll m1 _ _ dps
  refine ⟨_, rfl, ga, _, 3, _, rfl, rfl, sqT_mono m2 hga1, atI_nat (j := 3) rfl, pa, rfl, ⟨_, sqT_mono m2 hpa1⟩, ?_⟩
  refine for_tup (K := K) (a := pa) (xs := ps) (fun i σ H' => ∃ (vs : List V) (y4 y5 y6 y7 : Option V), σ = [some (.ref ga), some (.int way), some (.ref dd), some (.ref L), y4, y5, y6, y7] ∧ Acc K H1 H' L vs (((G.procs.take i).map (Pr.ren f)).map Pr.d)) ⟨[], none, none, none, none, rfl, Acc.start hL⟩ (fun i σ H' _ ⟨_, _, _, _, _, _, ac⟩ => sqT_mono ac.s hpa1) ?_ ?_
  · rintro i x σ H2 hx ⟨vs, y4, y5, y6, y7, rfl, ac⟩
    have hi := (List.getElem?_eq_some_iff.mp hx).1
    obtain ⟨p, ep⟩ : ∃ p, G.procs[i]? = some p := ⟨G.procs[i]'(lps ▸ hi), List.getElem?_eq_getElem _⟩
    obtain ⟨x', ex, dp⟩ := DpAll.get dps1 (show (G.procs.map Pr.d)[i]? = some p.d by rw [List.getElem?_map, ep]; rfl)
    rw [hx] at ex
    cases ex
    obtain ⟨ra, rla, rba, rr, rbs, rfl, hra, hla, hba, dbs, drr⟩ := pr_inv (dp_mono ac.s _ _ dp)
    obtain ⟨o1, o2, o3, o4, o5, o6⟩ := ok.p p (List.mem_of_getElem? ep)
    have l1 := ac.len
    rw [List.length_map, List.length_map, List.length_take] at l1
    have hlen : vs.length < sizeLine := Nat.lt_of_le_of_lt (show vs.length ≤ 900 by have := ok.n.1; omega) (by decide)
    have dblk : Dp K H2 (.ref rba) p.block.d := by
      refine .tup hba ?_
      rw [Blk.ds_l]
      exact dbs
    have hd2 := hd.grow ac.s
    refine ⟨_, rfl, .inl ⟨rfl, _, SqL.of ac.l⟩, _, rfl, _, rfl, ra, _, 0, _, rfl, rfl, hra, atI_nat (j := 0) rfl, dd, _, rfl, hd2.get o1, one, fun t1 h1 => ?_⟩
    have e1 := same_new h1 (.tup [V.str (f p.name)])
    refine ⟨_, rfl, _, rfl, _, rfl, ra, _, rfl, sqT_mono e1 hra, fun c1 H3 m3 hc1 => ?_⟩
    refine ⟨t1, c1, _, _, rfl, rfl, sqT_mono m3 (SqT.of upd_same), hc1, by show 1 + 3 ≤ sizeLine; decide, fun c2 H4 m4 hc2 => ?_⟩
    have hc2 : SqT K H4 c2 [.str (f p.name), .int p.size, .int p.ans, .ref rla] := hc2
    have m24 := e1.trans (m3.trans m4)
    refine ⟨_, rfl, ra, _, 4, _, rfl, rfl, sqT_mono m24 hra, atI_nat (j := 4) rfl, _, rfl, f, .ref rba, dd, p.block, rfl, dp_mono m24 _ _ dblk, o5, o2, hk, o4, hd2.grow m24, fun w1 H5 m5 dw1 => ?_⟩
    have m25 := m24.trans m5
    refine ⟨_, rfl, ra, _, 5, _, rfl, rfl, sqT_mono m25 hra, atI_nat (j := 5) rfl, _, rfl, f, rr, dd, p.res, rfl, dp_mono m25 _ _ drr, o6, o3, hd2.grow m25, fun w2 H6 m6 dw2 => ⟨two, fun t2 h2 => ?_⟩⟩
    have e2 := same_new h2 (.tup [w1, w2])
    refine ⟨c2, t2, _, _, rfl, rfl, sqT_mono (m5.trans (m6.trans e2)) hc2, SqT.of upd_same, by show 4 + 2 ≤ sizeLine; decide, fun c3 H7 m7 hc3 => ?_⟩
    have m27 := m25.trans (m6.trans (e2.trans m7))
    have ac7 := ac.grow m27
    refine ⟨L, vs, _, rfl, rfl, ac7.l, hlen, vs ++ [.ref c3], _, _, _, _, rfl, ?_⟩
    rw [take_more ep, List.map_append, List.map_append]
    refine ac7.add (d := (p.ren f).d) ?_ (Pr.nol _)
    exact .tup hc3 (.cons (.str _) (.cons (.int _) (.cons (.int _) (.cons (.tup (sqT_mono m27 hla) (dp_strs _)) (.cons (dp_mono (m6.trans (e2.trans m7)) _ _ dw1) (.cons (dp_mono (e2.trans m7) _ _ dw2) .nil))))))
  rintro σ H2 ⟨vs, y4, y5, y6, y7, rfl, ac⟩
  rw [lps, List.take_length] at ac
  have hta5 := sqT_mono (m1.trans ac.s) hta
  have dt5 := dp_monoAll (m1.trans ac.s) _ _ dts
  refine ⟨_, rfl, ga, _, 1, _, rfl, rfl, sqT_mono ac.s hga1, atI_nat (j := 1) rfl, ta, rfl, ⟨_, hta5⟩, fun D5 hD5 => ?_⟩
  refine lc_tup (K := K) (a := ta) (xs := ts) (fun i H' => ∃ us, Acc K H2 H' D5 us ((G.tabs.take i).map fun t => trip (rowR f t))) ⟨[], Acc.start hD5⟩ (fun i H' _ ⟨_, c⟩ => sqT_mono c.s hta5) ?_ ?_
  · rintro i x H' hx ⟨us, c⟩
    obtain ⟨t, b, et, rfl, hb⟩ := trip_at dt5 hx
    have hb' := sqT_mono c.s hb
    have l1 := c.len
    rw [List.length_map, List.length_take] at l1
    have hlen : us.length < sizeLine := Nat.lt_of_le_of_lt (show us.length ≤ 900 by have := ok.n; omega) (by decide)
    refine ⟨rfl, _, rfl, _, rfl, b, _, 0, _, rfl, rfl, hb', atI_nat (j := 0) rfl, dd, _, rfl, (hd.grow (ac.s.trans c.s)).get (ok.t t (List.mem_of_getElem? et)), one, fun t1 h1 => ?_⟩
    have e1 := same_new h1 (.tup [V.str (f t.1)])
    refine ⟨_, rfl, _, rfl, b, _, rfl, sqT_mono e1 hb', fun c1 H3 m3 hc1 => ?_⟩
    refine ⟨t1, c1, _, _, rfl, rfl, sqT_mono m3 (SqT.of upd_same), hc1, by show 1 + 2 ≤ sizeLine; decide, fun c2 H4 m4 hc2 => ?_⟩
    have c4 := c.grow (e1.trans (m3.trans m4))
    refine ⟨us, c4.l, hlen, us ++ [.ref c2], ?_⟩
    rw [take_more et, List.map_append]
    exact c4.add (d := trip (rowR f t)) (.tup hc2 (.cons (.str _) (.cons (.int _) (.cons (.int _) .nil)))) (nol_trip _)
  rintro H5x ⟨us5, c5⟩
  rw [lts, List.take_length] at c5
  refine ⟨D5, us5, rfl, .inl ⟨SqL.of c5.l, fun tt5 htt5 => ?_⟩⟩
  have e5 := same_new htt5 (.tup us5)
  have k5 := c5.s.trans e5
  generalize hH3 : upd H5x tt5 (.tup us5) = H3 at e5 k5 ⊢
  have tt5' : SqT K H3 tt5 us5 := by rw [← hH3]; exact SqT.of upd_same
  have ac3 := ac.grow k5
  have hta7 := sqT_mono (m1.trans ac3.s) hlo
  have dt7 := dp_monoAll (m1.trans ac3.s) _ _ dls
  refine ⟨_, rfl, ga, _, 2, _, rfl, rfl, sqT_mono ac3.s hga1, atI_nat (j := 2) rfl, lo, rfl, ⟨_, hta7⟩, fun D7 hD7 => ?_⟩
  refine lc_tup (K := K) (a := lo) (xs := ls) (fun i H' => ∃ us, Acc K H3 H' D7 us ((G.lots.take i).map fun t => trip (rowR f t))) ⟨[], Acc.start hD7⟩ (fun i H' _ ⟨_, c⟩ => sqT_mono c.s hta7) ?_ ?_
  · rintro i x H' hx ⟨us, c⟩
    obtain ⟨t, b, et, rfl, hb⟩ := trip_at dt7 hx
    have hb' := sqT_mono c.s hb
    have l1 := c.len
    rw [List.length_map, List.length_take] at l1
    have hlen : us.length < sizeLine := Nat.lt_of_le_of_lt (show us.length ≤ 900 by have := ok.n; omega) (by decide)
    refine ⟨rfl, _, rfl, _, rfl, b, _, 0, _, rfl, rfl, hb', atI_nat (j := 0) rfl, dd, _, rfl, (hd.grow (ac3.s.trans c.s)).get (ok.l t (List.mem_of_getElem? et)), one, fun t1 h1 => ?_⟩
    have e1 := same_new h1 (.tup [V.str (f t.1)])
    refine ⟨_, rfl, _, rfl, b, _, rfl, sqT_mono e1 hb', fun c1 H3 m3 hc1 => ?_⟩
    refine ⟨t1, c1, _, _, rfl, rfl, sqT_mono m3 (SqT.of upd_same), hc1, by show 1 + 2 ≤ sizeLine; decide, fun c2 H4 m4 hc2 => ?_⟩
    have c4 := c.grow (e1.trans (m3.trans m4))
    refine ⟨us, c4.l, hlen, us ++ [.ref c2], ?_⟩
    rw [take_more et, List.map_append]
    exact c4.add (d := trip (rowR f t)) (.tup hc2 (.cons (.str _) (.cons (.int _) (.cons (.int _) .nil)))) (nol_trip _)
  rintro H7x ⟨us7, c7⟩
  rw [lls, List.take_length] at c7
  refine ⟨D7, us7, rfl, .inl ⟨SqL.of c7.l, fun tt7 htt7 => ?_⟩⟩
  have e7 := same_new htt7 (.tup us7)
  have k7 := c7.s.trans e7
  have kA := k5.trans k7
  refine ⟨_, rfl, ga, _, 0, _, rfl, rfl, sqT_mono (ac.s.trans kA) hga1, atI_nat (j := 0) rfl, _, rfl, _, rfl, _, rfl, L, vs, rfl, .inl ⟨SqL.of (kA _ _ ac.l), fun tp htp => ⟨four, fun t4 h4 => ?_⟩⟩⟩
  have e8 := same_new htp (.tup vs)
  have e9 := same_new h4 (.tup [u1, .ref tt5, .ref tt7, .ref tp])
  have e89 := e8.trans e9
  have kB := kA.trans e89
  refine q f _ _ hf (m1.trans (ac.s.trans kB)) ?_
  refine .tup (SqT.of upd_same) (.cons (dp_mono (m1.trans (ac.s.trans kB)) _ _ dg1) (.cons (.tup (sqT_mono (k7.trans e89) tt5') ?_) (.cons (.tup (sqT_mono e89 (SqT.of upd_same)) ?_) (.cons (.tup (sqT_mono e9 (SqT.of upd_same)) ?_) .nil))))
  · show DpAll K _ us5 ((G.tabs.map (rowR f)).map trip)
    rw [List.map_map]
    exact dp_monoAll (e5.trans (k7.trans e89)) _ _ c5.d
  · show DpAll K _ us7 ((G.lots.map (rowR f)).map trip)
    rw [List.map_map]
    exact dp_monoAll (e7.trans e89) _ _ c7.d
  · exact dp_monoAll kB _ _ ac.d
end
end Toy
set_option Elab.async false
set_option linter.all false
set_option maxRecDepth 100000
set_option maxHeartbeats 8000000
namespace Toy
open PySem L2 NdefX Gm
open Mine hiding same_new
theorem divW {a b : Int} (hb : 0 < b ∧ b ≤ 65535) : CDivW a b := by
  have e : (2 : Nat) ^ 17 = 131072 := by decide
  exact wide_div (b := 17) hb.1 (by omega) (by decide) (by decide)
def PN (G : Ga) : Prop := G.procs.map (·.name) = (["p"] : List Str) ∨ G.procs.map (·.name) = (["p", "r"] : List Str)
def spSunken (K : PySem.W.Frag) : Sp := fun vs H Q _ => ∃ (v : V) (G : Ga) (c : Int), vs = [v, .int c] ∧ Dp K H v G.d ∧ GaOk G ∧ ∀ (u : V) (G' : Ga) (H' : Hp), Same H H' → Dp K H' u G'.d → SunkOk G' → PlOk G' P10 → PN G' → Q u H'
section
variable {P : Program} {w : World} {K : PySem.W.Frag} {mg : Str → Option Value} {base : Heap} {file : Str}
theorem ok_sunken (T : Txt K mg file) : FnOk P w K mg base CX0 1 T.a_law_sunken T.fd_law_sunken ["game", "cell"] (spSunken K) := by
  refine T.F_law_sunken.ok sc_law_sunken (fun vs H Q E h => ?_) (fun cdv A outer s H vs Q E hr h => ?_)
  · obtain ⟨v, G, c, rfl, _⟩ := h
    rfl
  obtain ⟨v, G, c, rfl, dv, ok, q⟩ := h
  refine ⟨_, (pss_cons (ps_set (i := 2) sc_law_sunken.nd rfl (Or.inl rfl) (pe_ix ix_tup (pe_ix ix_tup (pv 0) pe_int (fun _ _ => rfl)) pe_int (fun _ _ => rfl)))
    (pss_cons (ps_if (PW.pt (pw_or (pt_cmpR op_eq (pe_op op_mod (pe_callTy call_int1 (by rfl) T.z_int (by decide +kernel) (pa_cons (pv 1) pa_nil)) pe_int) pe_int (nomark _)) (pw_or1 (pt_cmpR op_eq (pe_callB call_len_seq (by rfl) T.z_len (by decide +kernel) (pa_cons (pe_ix ix_tup (pv 2) pe_int (fun _ _ => rfl)) pa_nil)) pe_int (nomark _)))))
      (pss_one (ps_ret (pv 0)))
      pss_nil)
    (pss_cons (ps_set (i := 3) sc_law_sunken.nd rfl (Or.inl rfl) (pe_op op_mod (pe_op op_fdivW (pe_callTy call_int1 (by rfl) T.z_int (by decide +kernel) (pa_cons (pv 1) pa_nil)) pe_int) (pe_callB call_len_seq (by rfl) T.z_len (by decide +kernel) (pa_cons (pe_ix ix_tup (pv 2) pe_int (fun _ _ => rfl)) pa_nil))))
    (pss_cons (ps_set (i := 4) sc_law_sunken.nd rfl (Or.inl rfl) (pe_ix ix_tup (pe_ix ix_tup (pv 2) pe_int (fun _ _ => rfl)) (pv 3) (fun _ _ => rfl)))
    (pss_cons (ps_for PassesOwn.never rfl (pi_range1 (by rfl) T.z_range (pa_cons (pe_op op_add pe_int (pe_op op_mod (pe_op op_fdivW (pe_callTy call_int1 (by rfl) T.z_int (by decide +kernel) (pa_cons (pv 1) pa_nil)) pe_int) pe_int)) pa_nil)) (pg_name (i := 5) sc_law_sunken.nd rfl (Or.inl rfl))
      (pss_cons (ps_set (i := 6) sc_law_sunken.nd rfl (Or.inl rfl) (pe_op op_mod (pe_op op_fdivW (pe_callTy call_int1 (by rfl) T.z_int (by decide +kernel) (pa_cons (pv 1) pa_nil)) (pe_ix ix_tup (pe_tup (pa_cons pe_int (pa_cons pe_int (pa_cons pe_int pa_nil)))) (pv 5) (fun _ _ => rfl))) pe_int))
    (pss_one (ps_set (i := 4) sc_law_sunken.nd rfl (Or.inl rfl) (pe_ix ix_tup (pe_tup (pa_cons (pe_tup (pa_cons pe_str (pa_cons (pe_tup (pa_cons pe_str (pa_cons (pe_ix ix_tup (pe_ix ix_tup (pv 2) pe_int (fun _ _ => rfl)) pe_int (fun _ _ => rfl)) pa_nil))) (pa_cons (pe_tup (pa_cons (pv 4) pa_nil)) (pa_cons (pe_tup pa_nil) pa_nil))))) (pa_cons (pe_tup (pa_cons pe_str (pa_cons (pe_tup (pa_cons pe_str (pa_cons (pe_ix ix_tup (pe_ix ix_tup (pv 2) pe_int (fun _ _ => rfl)) pe_int (fun _ _ => rfl)) pa_nil))) (pa_cons (pe_tup pa_nil) (pa_cons (pe_tup (pa_cons (pv 4) pa_nil)) pa_nil))))) (pa_cons (pe_tup (pa_cons pe_str (pa_cons (pe_tup (pa_cons (pv 4) pa_nil)) pa_nil))) pa_nil)))) (pv 6) (fun _ _ => rfl))))))
    (pss_cons (ps_set (i := 7) sc_law_sunken.nd rfl (Or.inl rfl) (pe_op (CatB.op_catB K rfl) (pe_op (CatB.op_catB K rfl) (pe_slice (slTB K rfl) (pe_ix ix_tup (pv 2) pe_int (fun _ _ => rfl)) po_none (po_some (pv 3))) (pe_tup (pa_cons (pv 4) pa_nil))) (pe_slice (slTB K rfl) (pe_ix ix_tup (pv 2) pe_int (fun _ _ => rfl)) (po_some (pe_op op_add (pv 3) pe_int)) po_none)))
    (pss_one (ps_ret (pe_op (CatB.op_catB K rfl) (pe_slice (slTB K rfl) (pv 0) po_none (po_some pe_int)) (pe_tup (pa_cons (pe_op (CatB.op_catB K rfl) (pe_tup (pa_cons (pe_op (CatB.op_catB K rfl) (pe_slice (slTB K rfl) (pv 2) po_none (po_some pe_int)) (pe_tup (pa_cons (pv 7) (pa_cons (pe_ix ix_tup (pv 2) pe_int (fun _ _ => rfl)) pa_nil)))) pa_nil)) (pe_slice (slTB K rfl) (pe_ix ix_tup (pv 0) pe_int (fun _ _ => rfl)) (po_some pe_int) po_none)) pa_nil))))))))))), ?_⟩
  have zero : (0 : Nat) ≤ sizeLine := by decide
  have one : (1 : Nat) ≤ sizeLine := by decide
  have two : (2 : Nat) ≤ sizeLine := by decide
  have three : (3 : Nat) ≤ sizeLine := by decide
  have four : (4 : Nat) ≤ sizeLine := by decide
  have dv0 := dv
  have sk := SunkOk.ofOk ok
  have pk := PlOk.ofOk ok
  obtain ⟨ga, u1, u2, u3, pa, ps, rfl, hga, dg1, dg2, dg3, hpa, dps⟩ := ga_inv dv
  have np := ga_sizes ok
  obtain ⟨p, pr, ep⟩ : ∃ p pr, G.procs = p :: pr := by
    cases e : G.procs with
    | nil => rw [e] at np; exact absurd np.2 (by decide)
    | cons p pr => exact ⟨_, _, rfl⟩
  have hpm : p ∈ G.procs := by rw [ep]; exact List.mem_cons_self ..
  rw [ep, List.map_cons] at dps
  obtain ⟨v0, vr, rfl, dp0, dpr⟩ := dps_cons dps
  obtain ⟨pra, la, ba, rv, bs, rfl, hpra, hla, hba, dbs, dres⟩ := pr_inv dp0
  obtain ⟨x0, x1, xr, el, nx0, nx1⟩ := two_locs ok hpm
  rw [el] at hla
  have lb : bs.length = p.block.l.length := (DpAll.len dbs).trans (List.length_map _)
  have tb := ok_tot ok hpm
  have lenb := (sk.t p hpm).2
  have fp := (GaF.ofOk ok).procs p hpm
  refine ⟨_, rfl, ga, _, 3, _, rfl, rfl, hga, atI_nat (j := 3) rfl, pa, _, 0, _, rfl, rfl, hpa, atI_nat (j := 0) rfl, ?_⟩
  refine ⟨_, rfl, .inl ⟨_, rfl, _, _, rfl, rfl, (by show (0 : Int) < 2; decide), rfl, _, rfl, ite2 (fun _ => ?_) (fun _ => ?_)⟩⟩
  · exact iteT2 rfl ⟨_, rfl, q _ _ _ (Same.refl _) dv0 sk pk ok.procs⟩
  refine ⟨_, rfl, pra, _, 4, _, rfl, rfl, hpra, atI_nat (j := 4) rfl, ba, bs, rfl, .inr hba, rfl, _, rfl, ite2 (fun _ => ?_) (fun hn => ?_)⟩
  · exact ⟨_, rfl, q _ _ _ (Same.refl _) dv0 sk pk ok.procs⟩
  have hb0 : 0 < bs.length := by
    rcases Nat.eq_zero_or_pos bs.length with e | e
    · exact absurd (decide_eq_true (by rw [e]; rfl)) hn
    · exact e
  have bpos : (0 : Int) < ((bs.length : Nat) : Int) := by omega
  refine ⟨_, rfl, .inl ⟨_, rfl, _, _, rfl, rfl, wide_div (b := 64) (by decide) (by decide) (by decide) (by decide), _, rfl, pra, _, 4, _, rfl, rfl, hpra, atI_nat (j := 4) rfl, ba, bs, rfl, .inr hba, _, _, rfl, rfl, bpos, ?_⟩⟩
  obtain ⟨j, ej, hj⟩ := at_nat (vs := bs) (i := c / 2 % ((bs.length : Nat) : Int)) (Int.emod_nonneg _ (by omega)) (Int.emod_lt_of_pos _ bpos)
  obtain ⟨st, es⟩ : ∃ st, p.block.l[j]? = some st := ⟨p.block.l[j]'(lb ▸ hj), List.getElem?_eq_getElem _⟩
  obtain ⟨sv, esv, dsv⟩ := DpAll.get dbs (show (p.block.l.map Stm.d)[j]? = some st.d by rw [List.getElem?_map, es]; rfl)
  have hsm := List.mem_of_getElem? es
  have fst_ := blF.l fp.block st hsm
  refine ⟨_, rfl, pra, _, 4, _, rfl, rfl, hpra, atI_nat (j := 4) rfl, _, rfl, ba, bs, _, _, rfl, rfl, hba, at_of (j := j) ej esv, ?_⟩
  refine ⟨_, rfl, .inl ⟨_, rfl, _, _, rfl, rfl, wide_div (b := 64) (by decide) (by decide) (by decide) (by decide), _, _, rfl, rfl, (by show (0 : Int) < 3; decide), _, _, rfl, rfl, _, rfl, by omega, by omega, ?_⟩⟩
  have hn3 : (1 + c / 10 % 3).toNat ≤ 3 := by omega
  generalize hN : (1 + c / 10 % 3).toNat = N at hn3
  refine for_range (lo := 0) (n := N) (fun i σ H' => ∃ (iv : V) (s : Stm) (y5 y6 y7 : Option V), σ = [some (.ref ga), some (.int c), some (.ref pra), some (.int (c / 2 % ((bs.length : Nat) : Int))), some iv, y5, y6, y7] ∧ Same H H' ∧ Dp K H' iv s.d ∧ stF 5 (2 + i) s ∧ s.tot ≤ st.tot + i ∧ s.Nm N6 ∧ s.Pl P10) ⟨sv, st, none, none, none, rfl, Same.refl _, dsv, stF.mono (by decide) fst_ (Nat.le_refl _), Nat.le_refl _, Blk.nm_l (sk.g p hpm).2.1 st hsm, Blk.pl_l (pk p hpm).1 st hsm⟩ ?_ ?_
  · rintro i σ H1 hi ⟨iv, s, y5, y6, y7, rfl, m1, div, fs, ts, ns, pls⟩
    obtain ⟨dg, edg, dg0, dg9⟩ := dig3 (i := i) (by omega)
    refine ⟨_, rfl, .inl ⟨_, rfl, three, fun t0 h0 => ⟨_, rfl, t0, _, _, _, rfl, rfl, SqT.of upd_same, edg, _, _, rfl, rfl, divW ⟨dg0, dg9⟩, _, _, rfl, rfl, (by show (0 : Int) < 3; decide), ?_⟩⟩⟩
    have k0 := m1.trans (same_new h0 (.tup [V.int 30, .int 90, .int 270]))
    have D := dp_mono (same_new h0 (.tup [V.int 30, .int 90, .int 270])) _ _ div
    clear div
    revert k0 D
    generalize upd H1 t0 (.tup [V.int 30, .int 90, .int 270]) = H2
    intro k0 D
    -- the first way
    refine ⟨_, rfl, pra, _, 3, _, rfl, rfl, sqT_mono k0 hpra, atI_nat (j := 3) rfl, la, _, 0, _, rfl, rfl, sqT_mono k0 hla, atI_nat (j := 0) rfl, two, fun t1 h1 => ?_⟩
    have e1 := same_new h1 (.tup [V.str "local", .str x0])
    refine ⟨_, rfl, one, fun t2 h2 => ?_⟩
    have e2 := same_new h2 (.tup [iv])
    refine ⟨zero, fun t3 h3 => ?_⟩
    have e3 := same_new h3 (.tup [])
    refine ⟨four, fun t4 h4 => ?_⟩
    have e4 := same_new h4 (.tup [V.str "if", .ref t1, .ref t2, .ref t3])
    have A1 : Dp K _ (.ref t1) (Ex.loc x0).d := dp_tup (ds := [.str "local", .str x0]) h1 (.cons (.str _) (.cons (.str _) .nil))
    have A2 : Dp K _ (.ref t2) (.tuple [s.d]) := dp_tup (ds := [s.d]) h2 (.cons (dp_mono e1 _ _ D) .nil)
    have A3 : Dp K _ (.ref t3) (.tuple []) := dp_tup (ds := []) h3 .nil
    have A := dp_tup (ds := [.str "if", (Ex.loc x0).d, .tuple [s.d], .tuple []]) h4 (.cons (.str "if") (.cons (dp_mono (e2.trans e3) _ _ A1) (.cons (dp_mono e3 _ _ A2) (.cons A3 .nil))))
    have k4 := k0.trans (e1.trans (e2.trans (e3.trans e4)))
    have D4 := dp_mono (e1.trans (e2.trans (e3.trans e4))) _ _ D
    clear A1 A2 A3 e1 e2 e3 e4 D k0
    revert A k4 D4
    generalize upd (upd (upd (upd H2 t1 (.tup [V.str "local", .str x0])) t2 (.tup [iv])) t3 (.tup [])) t4 (.tup [V.str "if", .ref t1, .ref t2, .ref t3]) = H6
    intro A k4 D4
    -- the second
    refine ⟨_, rfl, pra, _, 3, _, rfl, rfl, sqT_mono k4 hpra, atI_nat (j := 3) rfl, la, _, 1, _, rfl, rfl, sqT_mono k4 hla, atI_nat (j := 1) rfl, two, fun t5 h5 => ?_⟩
    have e1 := same_new h5 (.tup [V.str "local", .str x1])
    refine ⟨zero, fun t6 h6 => ?_⟩
    have e2 := same_new h6 (.tup [])
    refine ⟨_, rfl, one, fun t7 h7 => ?_⟩
    have e3 := same_new h7 (.tup [iv])
    refine ⟨four, fun t8 h8 => ?_⟩
    have e4 := same_new h8 (.tup [V.str "if", .ref t5, .ref t6, .ref t7])
    have A1 : Dp K _ (.ref t5) (Ex.loc x1).d := dp_tup (ds := [.str "local", .str x1]) h5 (.cons (.str _) (.cons (.str _) .nil))
    have A2 : Dp K _ (.ref t6) (.tuple []) := dp_tup (ds := []) h6 .nil
    have A3 : Dp K _ (.ref t7) (.tuple [s.d]) := dp_tup (ds := [s.d]) h7 (.cons (dp_mono (e1.trans e2) _ _ D4) .nil)
    have B := dp_tup (ds := [.str "if", (Ex.loc x1).d, .tuple [], .tuple [s.d]]) h8 (.cons (.str "if") (.cons (dp_mono (e2.trans e3) _ _ A1) (.cons (dp_mono e3 _ _ A2) (.cons A3 .nil))))
    have e14 := e1.trans (e2.trans (e3.trans e4))
    have k8 := k4.trans e14
    have A8 := dp_mono e14 _ _ A
    have D8 := dp_mono e14 _ _ D4
    clear A1 A2 A3 e1 e2 e3 e4 e14 D4 k4 A
    revert B k8 A8 D8
    generalize upd (upd (upd (upd H6 t5 (.tup [V.str "local", .str x1])) t6 (.tup [])) t7 (.tup [iv])) t8 (.tup [V.str "if", .ref t5, .ref t6, .ref t7]) = H10
    intro B k8 A8 D8
    -- the third
    refine ⟨_, rfl, one, fun t9 h9 => ⟨two, fun ta hta => ⟨three, fun tb htb => ?_⟩⟩⟩
    have e1 := same_new h9 (.tup [iv])
    have e2 := same_new hta (.tup [V.str "after", .ref t9])
    have e3 := same_new htb (.tup [V.ref t4, .ref t8, .ref ta])
    have A1 : Dp K _ (.ref t9) (.tuple [s.d]) := dp_tup (ds := [s.d]) h9 (.cons D8 .nil)
    have C := dp_tup (ds := [.str "after", .tuple [s.d]]) hta (.cons (.str "after") (.cons A1 .nil))
    have e13 := e1.trans (e2.trans e3)
    have fsl : blF 5 (2 + i) (.cons s .nil) := by unfold blF; exact ⟨fs, by unfold blF; trivial⟩
    have tsl : (Blk.cons s .nil).tot = s.tot := tot_one s
    have len1 : (Blk.cons s .nil).len = 1 := by unfold Blk.len Blk.len; rfl
    have len0 : Blk.nil.len = 0 := by unfold Blk.len; rfl
    have ds1 : (Blk.cons s .nil).ds = [s.d] := by unfold Blk.ds Blk.ds; rfl
    have ds0 : Blk.nil.ds = [] := by unfold Blk.ds; rfl
    have pn : Blk.nil.Pl P10 := by unfold Blk.Pl; trivial
    have psl : (Blk.cons s .nil).Pl P10 := by unfold Blk.Pl; exact ⟨pls, pn⟩
    have sc := p10_sc ok hpm
    have px0 : (Ex.loc x0).Pl P10 := fun z hz => by rw [show z = (("local" : Str), x0) from List.mem_singleton.mp hz]; exact sc.l x0 (by show x0 ∈ p.locs; rw [el]; exact List.mem_cons_self)
    have px1 : (Ex.loc x1).Pl P10 := fun z hz => by rw [show z = (("local" : Str), x1) from List.mem_singleton.mp hz]; exact sc.l x1 (by show x1 ∈ p.locs; rw [el]; exact List.mem_cons_of_mem _ List.mem_cons_self)
    have nn : Blk.nil.Nm N6 := by unfold Blk.Nm; trivial
    have nsl : (Blk.cons s .nil).Nm N6 := by unfold Blk.Nm; exact ⟨ns, nn⟩
    have bn : blF 5 (2 + i) .nil := by unfold blF; trivial
    rcases way3 (r := c / dg) (x := .ref t4) (y := .ref t8) (z := .ref ta) with e | e | e
    · refine ⟨_, rfl, tb, _, _, _, rfl, rfl, SqT.of upd_same, e, .ref t4, .ite (.loc x0) (.cons s .nil) .nil, _, _, _, rfl, k8.trans e13, ?_, ?_, ?_, ?_, ?_⟩
      · unfold Stm.d; rw [ds1, ds0]; exact dp_mono e13 _ _ A8
      · show stF 5 (2 + i + 1) _; unfold stF; exact ⟨nx0, fsl, bn, by omega, by omega⟩
      · rw [tot_ite, tsl, tot_nil]; omega
      · unfold Stm.Nm; exact ⟨trivial, nsl, nn⟩
      · unfold Stm.Pl; exact ⟨px0, psl, pn⟩
    · refine ⟨_, rfl, tb, _, _, _, rfl, rfl, SqT.of upd_same, e, .ref t8, .ite (.loc x1) .nil (.cons s .nil), _, _, _, rfl, k8.trans e13, ?_, ?_, ?_, ?_, ?_⟩
      · unfold Stm.d; rw [ds1, ds0]; exact dp_mono e13 _ _ B
      · show stF 5 (2 + i + 1) _; unfold stF; exact ⟨nx1, bn, fsl, by omega, by omega⟩
      · rw [tot_ite, tsl, tot_nil]; omega
      · unfold Stm.Nm; exact ⟨trivial, nn, nsl⟩
      · unfold Stm.Pl; exact ⟨px1, pn, psl⟩
    · refine ⟨_, rfl, tb, _, _, _, rfl, rfl, SqT.of upd_same, e, .ref ta, .after (.cons s .nil), _, _, _, rfl, k8.trans e13, ?_, ?_, ?_, ?_, ?_⟩
      · unfold Stm.d; rw [ds1]; exact dp_mono e3 _ _ C
      · show stF 5 (2 + i + 1) _; unfold stF; exact ⟨fsl, by omega⟩
      · rw [tot_aft, tsl]; omega
      · unfold Stm.Nm; exact nsl
      · unfold Stm.Pl; exact ⟨by decide +kernel, psl⟩
  rintro σ H1 ⟨iv, s, y5, y6, y7, rfl, m1, div, fs, ts, ns, pls⟩
  have fsN : stF 5 5 s := stF.mono (Nat.le_refl _) fs (by omega)
  rw [show c / 2 % ((bs.length : Nat) : Int) = (j : Int) from ej]
  -- the new block
  refine ⟨_, rfl, pra, _, 4, _, rfl, rfl, sqT_mono m1 hpra, atI_nat (j := 4) rfl, _, rfl, _, rfl, ba, _, rfl, sqT_mono m1 hba, fun p1 H2 m2 hp1 => ?_⟩
  rw [cut_take] at hp1
  refine ⟨_, rfl, one, fun t1 h1 => ?_⟩
  have e1 := same_new h1 (.tup [iv])
  have lt : (bs.take j).length = j := by rw [List.length_take]; omega
  refine ⟨p1, t1, _, _, rfl, rfl, sqT_mono e1 hp1, SqT.of upd_same, Nat.le_trans (show (bs.take j).length + 1 ≤ 1000 by omega) (by decide), fun p2 H3 m3 hp2 => ?_⟩
  have m13 := m1.trans (m2.trans (e1.trans m3))
  refine ⟨_, rfl, pra, _, 4, _, rfl, rfl, sqT_mono m13 hpra, atI_nat (j := 4) rfl, _, rfl, _, _, rfl, rfl, _, rfl, ba, _, rfl, sqT_mono m13 hba, fun p3 H4 m4 hp3 => ?_⟩
  rw [show ((j : Int) + 1) = ((j + 1 : Nat) : Int) from rfl, cut_drop] at hp3
  refine ⟨p2, p3, _, _, rfl, rfl, sqT_mono m4 hp2, hp3, Nat.le_trans (show (bs.take j ++ [iv]).length + (bs.drop (j + 1)).length ≤ 1000 by rw [List.length_append, List.length_drop, lt]; show j + 1 + _ ≤ _; omega) (by decide), fun p4 H5 m5 hp4 => ?_⟩
  have m15 := m13.trans (m4.trans m5)
  have div5 := dp_mono (m2.trans (e1.trans (m3.trans (m4.trans m5)))) _ _ div
  have dbs5 := dp_monoAll m15 _ _ dbs
  have DB : Dp K H5 (.ref p4) (Blk.of (p.block.l.take j ++ [s] ++ p.block.l.drop (j + 1))).d := by
    unfold Blk.d
    rw [Blk.ds_of, List.map_append, List.map_append, List.map_take, List.map_drop]
    exact .tup hp4 (DpAll.app (DpAll.app (dps_take dbs5 j) (.cons div5 .nil)) (dps_drop dbs5 (j + 1)))
  -- the new game
  refine ⟨_, rfl, _, rfl, ga, _, rfl, sqT_mono m15 hga, fun q1 H6 m6 hq1 => ?_⟩
  have m16 := m15.trans m6
  refine ⟨_, rfl, _, rfl, pra, _, rfl, sqT_mono m16 hpra, fun q2 H7 m7 hq2 => ?_⟩
  have m17 := m16.trans m7
  refine ⟨_, rfl, _, rfl, pra, _, 5, _, rfl, rfl, sqT_mono m17 hpra, atI_nat (j := 5) rfl, two, fun t2 h2 => ?_⟩
  have e2 := same_new h2 (.tup [V.ref p4, rv])
  refine ⟨q2, t2, _, _, rfl, rfl, sqT_mono e2 hq2, SqT.of upd_same, by show 4 + 2 ≤ sizeLine; decide, fun q3 H8 m8 hq3 => ⟨one, fun t3 h3 => ?_⟩⟩
  have e3 := same_new h3 (.tup [V.ref q3])
  have m18 := m17.trans (e2.trans (m8.trans e3))
  refine ⟨_, rfl, ga, _, 3, _, rfl, rfl, sqT_mono m18 hga, atI_nat (j := 3) rfl, _, rfl, pa, _, rfl, sqT_mono m18 hpa, fun q4 H9 m9 hq4 => ?_⟩
  rw [cut_tl] at hq4
  have lvr : vr.length ≤ 1 := by
    have := DpAll.len dpr
    rw [List.length_map] at this
    have := np.1
    rw [ep, List.length_cons] at this
    omega
  refine ⟨t3, q4, _, _, rfl, rfl, sqT_mono m9 (SqT.of upd_same), hq4, Nat.le_trans (show 1 + vr.length ≤ 2 by omega) (by decide), fun q5 H10 m10 hq5 => ⟨one, fun t4 h4 => ?_⟩⟩
  have e4 := same_new h4 (.tup [V.ref q5])
  refine ⟨q1, t4, _, _, rfl, rfl, sqT_mono (m7.trans (e2.trans (m8.trans (e3.trans (m9.trans (m10.trans e4)))))) hq1, SqT.of upd_same, by show 3 + 1 ≤ sizeLine; decide, fun q6 H11 m11 hq6 => ?_⟩
  have n8 := e3.trans (m9.trans (m10.trans (e4.trans m11)))
  have n5 := m6.trans (m7.trans (e2.trans (m8.trans n8)))
  have m111 := m15.trans n5
  have DP : Dp K H11 (.ref q3) ({ p with block := Blk.of (p.block.l.take j ++ [s] ++ p.block.l.drop (j + 1)) } : Pr).d := by
    refine .tup (sqT_mono n8 hq3) (.cons (.str _) (.cons (.int _) (.cons (.int _) (.cons (.tup (sqT_mono m111 hla) ?_) (.cons (dp_mono n5 _ _ DB) (.cons (dp_mono m111 _ _ dres) .nil))))))
    show DpAll K H11 _ (p.locs.map PyData.str)
    rw [el]
    exact dp_strs _
  refine q _ { G with procs := { p with block := Blk.of (p.block.l.take j ++ [s] ++ p.block.l.drop (j + 1)) } :: pr } _ m111 ?_ ?_ ?_ ?_
  · refine .tup hq6 (.cons (dp_mono m111 _ _ dg1) (.cons (dp_mono m111 _ _ dg2) (.cons (dp_mono m111 _ _ dg3) (.cons (.tup (sqT_mono (e4.trans m11) hq5) (.cons DP ?_)) .nil))))
    exact dp_monoAll m111 _ _ dpr
  · have fg := sk.f
    refine ⟨by show (_ :: pr).length ≤ 2; have := np.1; rw [ep] at this; exact this, ⟨fg.vars, fg.tabs, fg.lots, fun q' hq => ?_⟩, fun q' hq => ?_, Uniq.of ?_, fun q' hq => ?_, sk.rt, sk.rl, sk.z, sk.dl, sk.cl⟩
    · rcases List.mem_cons.mp hq with rfl | hq
      · have f := fg.procs p hpm
        refine ⟨f.name, f.locs, blF.of fun x hx => ?_, f.res⟩
        rcases List.mem_append.mp hx with hx | hx
        · rcases List.mem_append.mp hx with hx | hx
          · exact blF.l f.block x (List.mem_of_mem_take hx)
          · rw [List.mem_singleton.mp hx]; exact fsN
        · exact blF.l f.block x (List.mem_of_mem_drop hx)
      · exact fg.procs q' (by rw [ep]; exact List.mem_cons_of_mem _ hq)
    · rcases List.mem_cons.mp hq with rfl | hq
      · have t1 := tot_set (t := s) es
        rw [Blk.of_l] at t1
        refine ⟨by show (Blk.of _).tot ≤ 300; omega, ?_⟩
        show (Blk.of _).l.length ≤ 100
        rw [Blk.l_of, List.length_append, List.length_append, List.length_take, List.length_drop]
        have : [s].length = 1 := rfl
        have := (ok.proc p hpm).len
        rw [← Blk.len_l] at this
        omega
      · exact sk.t q' (by rw [ep]; exact List.mem_cons_of_mem _ hq)
    · have e0 : (({ p with block := Blk.of (p.block.l.take j ++ [s] ++ p.block.l.drop (j + 1)) } :: pr : List Pr)).map (·.name) = G.procs.map (·.name) := by rw [ep]; rfl
      show (({ p with block := Blk.of (p.block.l.take j ++ [s] ++ p.block.l.drop (j + 1)) } :: pr : List Pr).map (·.name)).Nodup
      rw [e0]
      rcases ok.procs with e | e <;> rw [e] <;> decide +kernel
    · rcases List.mem_cons.mp hq with rfl | hq
      · have gp := sk.g p hpm
        refine ⟨gp.1, Blk.nm_of fun x hx => ?_, gp.2.2⟩
        rcases List.mem_append.mp hx with hx | hx
        · rcases List.mem_append.mp hx with hx | hx
          · exact Blk.nm_l gp.2.1 x (List.mem_of_mem_take hx)
          · rw [List.mem_singleton.mp hx]; exact ns
        · exact Blk.nm_l gp.2.1 x (List.mem_of_mem_drop hx)
      · exact sk.g q' (by rw [ep]; exact List.mem_cons_of_mem _ hq)
  · intro q' hq
    rcases List.mem_cons.mp hq with rfl | hq
    · refine ⟨Blk.pl_of fun x hx => ?_, (pk p hpm).2⟩
      rcases List.mem_append.mp hx with hx | hx
      · rcases List.mem_append.mp hx with hx | hx
        · exact Blk.pl_l (pk p hpm).1 x (List.mem_of_mem_take hx)
        · rw [List.mem_singleton.mp hx]; exact pls
      · exact Blk.pl_l (pk p hpm).1 x (List.mem_of_mem_drop hx)
    · exact pk q' (by rw [ep]; exact List.mem_cons_of_mem _ hq)
  · show (({ p with block := Blk.of (p.block.l.take j ++ [s] ++ p.block.l.drop (j + 1)) } :: pr : List Pr).map (·.name)) = _ ∨ (({ p with block := Blk.of (p.block.l.take j ++ [s] ++ p.block.l.drop (j + 1)) } :: pr : List Pr).map (·.name)) = _
    have e0 : (({ p with block := Blk.of (p.block.l.take j ++ [s] ++ p.block.l.drop (j + 1)) } :: pr : List Pr)).map (·.name) = G.procs.map (·.name) := by rw [ep]; rfl
    rw [e0]
    exact ok.procs
end
end Toy
set_option Elab.async false
set_option linter.all false
set_option maxRecDepth 100000
set_option maxHeartbeats 8000000
namespace Toy
open PySem L2 NdefX Gm
open Mine hiding same_new
theorem SG.ofSunk {G : Ga} (h : SunkOk G) (p : PlOk G P10) : SG G := ⟨h.n, h.f, h.t, h.u, P10, by decide, p, p10_inj⟩
theorem PlOk.ren {G : Ga} {N : List (Str × Str)} (h : PlOk G N) (f : Str → Str) : PlOk (G.ren f) (N.map (renP f)) := fun p hp => by
  obtain ⟨q, hq, rfl⟩ := List.mem_map.mp hp
  exact ⟨Blk.pl_ren (h q hq).1, Ex.pl_ren (h q hq).2⟩
theorem SG.ren {G : Ga} (h : SunkOk G) (pl : PlOk G P10) (pn : PN G) {f : Str → Str} (hf : f = dicF kv0 ∨ f = dicF kv1) : SG (G.ren f) := by
  have nm : ∀ x ∈ N6, nmB (f x) = true := by
    unfold N6
    rcases hf with rfl | rfl <;> decide +kernel
  refine ⟨by show (G.procs.map _).length ≤ 2; rw [List.length_map]; exact h.n, ⟨h.f.vars, fun t ht => ?_, fun t ht => ?_, fun p hp => ?_⟩, fun p hp => ?_, Uniq.of ?_, P10.map (renP f), by rw [List.length_map]; decide, PlOk.ren pl f, ?_⟩
  · obtain ⟨u, hu, rfl⟩ := List.mem_map.mp ht
    exact nm _ (h.rt u hu)
  · obtain ⟨u, hu, rfl⟩ := List.mem_map.mp ht
    exact nm _ (h.rl u hu)
  · obtain ⟨q, hq, rfl⟩ := List.mem_map.mp hp
    have fq := h.f.procs q hq
    have gq := h.g q hq
    exact ⟨nm _ gq.1, fq.locs, Blk.ren_fit nm fq.block gq.2.1, Ex.ren_fit nm fq.res gq.2.2⟩
  · obtain ⟨q, hq, rfl⟩ := List.mem_map.mp hp
    have tq := h.t q hq
    show (q.block.ren f).tot ≤ 300 ∧ (q.block.ren f).l.length ≤ 100
    rw [Blk.ren_tot, Blk.ren_l, List.length_map]
    exact tq
  · show ((G.procs.map (Pr.ren f)).map (·.name)).Nodup
    have e1 : (G.procs.map (Pr.ren f)).map (·.name) = (G.procs.map (·.name)).map f := by rw [List.map_map, List.map_map]; rfl
    rw [e1]
    rcases pn with e | e <;> rw [e] <;> rcases hf with rfl | rfl <;> decide +kernel
  · rcases hf with rfl | rfl <;> (unfold UsInj P10; decide +kernel)
theorem SunkOk.al {G : Ga} (h : SunkOk G) : AlOk G 5 5 := by
  refine ⟨fun p hp => ?_, ⟨by have := h.n; omega, by have := h.z; omega, by have := h.z; omega⟩, h.rt, h.rl⟩
  have g := h.g p hp
  have f := h.f.procs p hp
  have t := h.t p hp
  exact ⟨g.1, g.2.1, g.2.2, by omega, f.block, f.res⟩
theorem SG.sz {G : Ga} (h : SG G) : GaSz G := ⟨by have := h.n; omega, fun p hp => ⟨((h.f.mono (j := 12) (e := 12) (by decide) (by decide)).procs p hp).block, by have := (h.t p hp).2; omega⟩⟩
def spLaw (K : PySem.W.Frag) : Sp := fun vs H Q _ => ∃ (a : Addr) (ns : List Int), vs = [.ref a] ∧ SqL K H a (ns.map V.int) ∧ ns.length ≤ 63 ∧ ∀ H', Q (.bl true) H'
theorem pick_4 {xs : List Str} (h : xs.length = 4) {r : Int} : ∃ n : Str, atI (xs.map V.str) (r % 4) = some (.str n) := by
  obtain ⟨x, hx, e⟩ := pick_mem (xs := xs) (r := r) (by rintro rfl; exact nomatch h)
  rw [List.length_map, h] at e
  exact ⟨x, e⟩
section
variable {P : Program} {w : World} {K : PySem.W.Frag} {mg : Str → Option Value} {base : Heap} {file : Str}
theorem ok_law (hP : PrF P file) (T : Txt K mg file) (hR : ∃ es n, L2.KDict K w T.a_RULES es n) (hF : FormsX K w T.a_FORMS) : FnOk P w K mg base CX0 60 T.a_law T.fd_law ["script"] (spLaw K) := by
  have G_law_cell : FnOk P w K mg base CX0 1 T.a_law_cell T.fd_law_cell ["script", "k"] (spCell K) := ok_cell T
  have G_law_game : FnOk P w K mg base CX0 5 T.a_law_game T.fd_law_game ["script", "at"] (spGame K) := ok_game T
  have G_law_sunken : FnOk P w K mg base CX0 1 T.a_law_sunken T.fd_law_sunken ["game", "cell"] (spSunken K) := ok_sunken T
  have G_law_alike : FnOk P w K mg base CX0 13 T.a_law_alike T.fd_law_alike ["game", "way"] (spAlike K 5 5) := ok_alike T 5 5
  have G_law_made : FnOk P w K mg base CX0 3 T.a_law_made T.fd_law_made ["game"] (spMade K T.C_Game) := ok_made T
  have G_law_parts : FnOk P w K mg base CX0 1 T.a_law_parts T.fd_law_parts ["game"] (spParts K T.C_Game) := ok_parts T
  have G_law_tried : FnOk P w K mg base CX0 22 T.a_law_tried T.fd_law_tried ["made", "step", "due"] (spTried K T.C_Game) := ok_tried hP T hF hR
  have G_law_swapped : FnOk P w K mg base CX0 14 T.a_law_swapped T.fd_law_swapped ["game", "name", "at"] (spLSwap K) := ok_lswap T
  have G_law_dropped : FnOk P w K mg base CX0 14 T.a_law_dropped T.fd_law_dropped ["game", "name", "at"] (spLDrop K) := ok_ldrop T
  refine T.F_law.ok sc_law (fun vs H Q E h => ?_) (fun cdv A outer s H vs Q E hr h => ?_)
  · obtain ⟨a, ns, rfl, _⟩ := h
    rfl
  obtain ⟨sa, ns, rfl, hS, hn63, q⟩ := h
  refine ⟨_, (pss_cons (ps_set (i := 1) sc_law.nd rfl (Or.inl rfl) (pe_call G_law_sunken (hr.mono (by omega)) rfl T.g_law_sunken T.k_law_sunken T.b_law_sunken .nil pass0 (pa_cons (pe_call G_law_game (hr.mono (by omega)) rfl T.g_law_game T.k_law_game T.b_law_game .nil pass0 (pa_cons (pv 0) (pa_cons pe_int pa_nil))) (pa_cons (pe_callB call_abs (by rfl) T.z_abs (by decide +kernel) (pa_cons (pe_call G_law_cell (hr.mono (by omega)) rfl T.g_law_cell T.k_law_cell T.b_law_cell .nil pass0 (pa_cons (pv 0) (pa_cons pe_int pa_nil))) pa_nil)) pa_nil))))
    (pss_cons (ps_set (i := 2) sc_law.nd rfl (Or.inl rfl) (pe_tup (pa_cons pe_str (pa_cons pe_str (pa_cons pe_str (pa_cons pe_str pa_nil))))))
    (pss_cons (ps_if (pt_cmpR op_eq (pe_op op_mod (pe_op op_fdivW (pe_callTy call_int1 (by rfl) T.z_int (by decide +kernel) (pa_cons (pe_call G_law_cell (hr.mono (by omega)) rfl T.g_law_cell T.k_law_cell T.b_law_cell .nil pass0 (pa_cons (pv 0) (pa_cons pe_int pa_nil))) pa_nil)) pe_int) pe_int) pe_int (nomark _))
      (pss_cons (ps_set (i := 1) sc_law.nd rfl (Or.inl rfl) (pe_call G_law_alike (hr.mono (by omega)) rfl T.g_law_alike T.k_law_alike T.b_law_alike .nil pass0 (pa_cons (pv 1) (pa_cons (pe_op op_mod (pe_op op_fdivW (pe_callB call_abs (by rfl) T.z_abs (by decide +kernel) (pa_cons (pe_call G_law_cell (hr.mono (by omega)) rfl T.g_law_cell T.k_law_cell T.b_law_cell .nil pass0 (pa_cons (pv 0) (pa_cons pe_int pa_nil))) pa_nil)) pe_int) pe_int) pa_nil))))
    (pss_one (ps_set (i := 2) sc_law.nd rfl (Or.inl rfl) (pe_tup (pa_cons pe_str (pa_cons pe_str (pa_cons pe_str (pa_cons pe_str pa_nil))))))))
      pss_nil)
    (pss_cons (ps_set (i := 3) sc_law.nd rfl (Or.inl rfl) (pe_call G_law_made (hr.mono (by omega)) rfl T.g_law_made T.k_law_made T.b_law_made .nil pass0 (pa_cons (pv 1) pa_nil)))
    (pss_cons (ps_for PassesOwn.never rfl (pi_list (pe_slice sl_list (pv 0) (po_some pe_int) (po_some pe_int))) (pg_name (i := 4) sc_law.nd rfl (Or.inl rfl))
      (pss_cons (ps_set (i := 5) sc_law.nd rfl (Or.inl rfl) (pe_ix ix_tup (pv 2) (pe_op op_mod (pe_callTy call_int1 (by rfl) T.z_int (by decide +kernel) (pa_cons (pv 4) pa_nil)) pe_int) (fun _ _ => rfl)))
    (pss_cons (ps_set (i := 6) sc_law.nd rfl (Or.inl rfl) (pe_op op_sub (pe_op op_mod (pe_op op_fdivW (pe_callTy call_int1 (by rfl) T.z_int (by decide +kernel) (pa_cons (pv 4) pa_nil)) pe_int) pe_int) pe_int))
    (pss_cons (ps_if (pt_not (pt_val (pe_call G_law_tried (hr.mono (by omega)) rfl T.g_law_tried T.k_law_tried T.b_law_tried .nil pass0 (pa_cons (pv 3) (pa_cons (pe_tup (pa_cons pe_str (pa_cons (pv 5) (pa_cons (pv 6) pa_nil)))) (pa_cons (pe_call G_law_swapped (hr.mono (by omega)) rfl T.g_law_swapped T.k_law_swapped T.b_law_swapped .nil pass0 (pa_cons (pv 1) (pa_cons (pv 5) (pa_cons (pv 6) pa_nil)))) pa_nil))))))
      (pss_one (ps_ret pe_bl))
      pss_nil)
    (pss_one (ps_if (pt_not (pt_val (pe_call G_law_tried (hr.mono (by omega)) rfl T.g_law_tried T.k_law_tried T.b_law_tried .nil pass0 (pa_cons (pv 3) (pa_cons (pe_tup (pa_cons pe_str (pa_cons (pv 5) (pa_cons (pv 6) pa_nil)))) (pa_cons (pe_call G_law_dropped (hr.mono (by omega)) rfl T.g_law_dropped T.k_law_dropped T.b_law_dropped .nil pass0 (pa_cons (pv 1) (pa_cons (pv 5) (pa_cons (pv 6) pa_nil)))) pa_nil))))))
      (pss_one (ps_ret pe_bl))
      pss_nil))))))
    (pss_one (ps_ret (pe_cmpR (op_eqD hr.units) (pe_call G_law_parts (hr.mono (by omega)) rfl T.g_law_parts T.k_law_parts T.b_law_parts .nil pass0 (pa_cons (pv 3) pa_nil)) (pv 1) (nomark _))))))))), ?_⟩
  refine ⟨_, rfl, sa, ns, 0, rfl, hS, by decide, fun gv0 G0 H1 m1 dG0 okG => ?_⟩
  refine ⟨_, rfl, sa, ns, 16, rfl, m1.seq hS, by decide, _, rfl, gv0, G0, _, rfl, dG0, okG, fun gv1 G1 H2 m2 dG1 sk pk pn => ?_⟩
  have m12 := m1.trans m2
  refine gn ?_
  dsimp only
  refine ⟨by show 4 ≤ sizeLine; decide, fun nt hnt => ?_⟩
  have e1 := same_new hnt (.tup [V.str "p", .str "p", .str "r", .str "zz"])
  have m13 := m12.trans e1
  refine gn ?_
  dsimp only
  refine seq_k (fun σ H' => ∃ (gv : V) (G : Ga) (nt : Addr) (xs : List Str), σ = [some (.ref sa), some gv, some (.ref nt), none, none, none, none] ∧ Same H H' ∧ Dp K H' gv G.d ∧ SG G ∧ SqT K H' nt (xs.map V.str) ∧ xs.length = 4) ?_ (fun k => ?_)
  rotate_left
  · refine ⟨_, rfl, sa, ns, 4, rfl, m13.seq hS, by decide, .inl ⟨_, rfl, _, _, rfl, rfl, wide_div (b := 64) (by decide) (by decide) (by decide) (by decide), _, _, rfl, rfl, (by show (0 : Int) < 3; decide), rfl, _, rfl, ite2 (fun c => ?_) (fun _ => k _ _ ⟨gv1, G1, nt, ["p", "p", "r", "zz"], rfl, m13, dp_mono e1 _ _ dG1, .ofSunk sk pk, SqT.of upd_same, rfl⟩)⟩⟩
    refine ⟨_, rfl, _, rfl, sa, ns, 5, rfl, m13.seq hS, by decide, _, rfl, _, _, rfl, rfl, wide_div (b := 64) (by decide) (by decide) (by decide) (by decide), _, _, rfl, rfl, (by show (0 : Int) < 2; decide), gv1, _, G1, rfl, dp_mono e1 _ _ dG1, by decide, SunkOk.al sk, fun f u H4 hf m4 du => ?_⟩
    refine gn ?_
    dsimp only
    refine ⟨by show 4 ≤ sizeLine; decide, fun nt2 hnt2 => ?_⟩
    have e2 := same_new hnt2 (.tup [V.str "x", .str "x", .str "y", .str "p"])
    exact k _ _ ⟨u, G1.ren f, nt2, ["x", "x", "y", "p"], rfl, m13.trans (m4.trans e2), dp_mono e2 _ _ du, .ren sk pk pn hf, SqT.of upd_same, rfl⟩
  clear dG0 dG1 m1 m2 m12 m13 e1 okG hnt
  rintro σ H2 ⟨gv, G, nt, xs, rfl, m12, dG, sg, hnt, hx4⟩
  refine ⟨_, rfl, gv, G, rfl, dG, fun mg_ H3 m3 gmd => ?_⟩
  have m13 := m12.trans m3
  refine ⟨_, rfl, _, rfl, _, rfl, sa, _, rfl, m13.seq hS, fun L hL => ?_⟩
  rw [show (4 : Int) = ((4 : Nat) : Int) from rfl, show (16 : Int) = ((16 : Nat) : Int) from rfl, cut_some, ← List.map_take, ← List.map_drop]
  have n0 := same_new hL (.lst (((ns.take 16).drop 4).map V.int))
  refine ⟨L, rfl, ⟨_, SqL.of upd_same⟩, ?_⟩
  have eL0 : (upd H3 L (.lst (((ns.take 16).drop 4).map V.int))) L = some (.lst (((ns.take 16).drop 4).map V.int)) := upd_same
  revert n0 eL0
  generalize upd H3 L (.lst (((ns.take 16).drop 4).map V.int)) = H4
  intro n0 eL0
  have gmd4 := gmd.same n0
  have dG4 := dp_mono (m3.trans n0) _ _ dG
  have hnt4 := sqT_mono (m3.trans n0) hnt
  refine for_list (K := K) (a := L) (xs := ((ns.take 16).drop 4).map V.int) (fun i σ H' => ∃ y4 y5 y6 : Option V, σ = [some (.ref sa), some gv, some (.ref nt), some (.ref mg_), y4, y5, y6] ∧ Same H4 H') ?_ (fun i σ H' _ ⟨_, _, _, _, h⟩ => SqL.of (h _ _ eL0)) ?_ ?_
  · exact ⟨_, _, _, rfl, Same.refl _⟩
  · rintro i x σ H5 hx ⟨y4, y5, y6, rfl, m5⟩
    rw [List.getElem?_map] at hx
    obtain ⟨cell, _, rfl⟩ := Option.map_eq_some_iff.mp hx
    obtain ⟨n, en⟩ := pick_4 hx4 (r := cell)
    refine ⟨_, rfl, _, rfl, .inl ⟨_, rfl, _, _, rfl, rfl, (by show (0 : Int) < 4; decide), nt, _, _, _, rfl, rfl, sqT_mono m5 hnt4, en, ?_⟩⟩
    refine ⟨_, rfl, .inl ⟨_, rfl, _, _, rfl, rfl, wide_div (b := 64) (by decide) (by decide) (by decide) (by decide), _, _, rfl, rfl, (by show (0 : Int) < 7; decide), _, _, rfl, rfl, ?_⟩⟩
    refine ⟨_, rfl, _, rfl, _, rfl, by show 3 ≤ sizeLine; decide, fun s1 g1 => ?_⟩
    have e1 := same_new g1 (.tup [V.str "swap", .str n, .int (cell / 4 % 7 - 1)])
    refine ⟨_, rfl, _, rfl, _, rfl, gv, G, n, _, rfl, dp_mono (m5.trans e1) _ _ dG4, sg, fun u J1 e2 due => ?_⟩
    have k2 := m5.trans (e1.trans e2)
    refine ⟨mg_, .ref s1, u, G, "swap", [.str n, .int (cell / 4 % 7 - 1)], rfl, gmd4.same k2, ⟨s1, rfl, sqT_mono e2 (SqT.of upd_same)⟩, ⟨sg, .inl rfl, _, _, rfl⟩, sg.sz, due, fun J2 e3 => ⟨true, rfl, iteF2 rfl ?_⟩⟩
    have k3 := k2.trans e3
    refine ⟨_, rfl, _, rfl, _, rfl, by show 3 ≤ sizeLine; decide, fun s2 g2 => ?_⟩
    have e4 := same_new g2 (.tup [V.str "drop", .str n, .int (cell / 4 % 7 - 1)])
    refine ⟨_, rfl, _, rfl, _, rfl, gv, G, n, _, rfl, dp_mono (k3.trans e4) _ _ dG4, sg, fun u2 J3 e5 due2 => ?_⟩
    have k4 := k3.trans (e4.trans e5)
    refine ⟨mg_, .ref s2, u2, G, "drop", [.str n, .int (cell / 4 % 7 - 1)], rfl, gmd4.same k4, ⟨s2, rfl, sqT_mono e5 (SqT.of upd_same)⟩, ⟨sg, .inr rfl, _, _, rfl⟩, sg.sz, due2, fun J4 e6 => ⟨true, rfl, iteF2 rfl ?_⟩⟩
    exact ⟨_, _, _, rfl, k4.trans e6⟩
  rintro σ H6 ⟨y4, y5, y6, rfl, m6⟩
  refine ⟨_, rfl, mg_, G, rfl, gmd4.same m6, fun v' H7 m7 dv' => ?_⟩
  have f := (sg.f.mono (j := 12) (e := 12) (by decide) (by decide)).fit
  refine ⟨_, rfl, _, _, dv', dp_mono (m6.trans m7) _ _ dG4, f.shaped (by decide), f.shaped (by decide), ?_⟩
  rw [(eqv_iff f.1 f.1).mpr rfl]
  exact q _
end
end Toy
set_option Elab.async false
set_option linter.all false
set_option maxRecDepth 100000
set_option maxHeartbeats 4000000
/-! A head by one kernel run: what is looked at behind the top is a Bool over a part of the heap, the defs, the tables. -/
namespace HdF
open PySem PySem.Spec PyProof.Rows L2 He
abbrev Fr := PySem.W.Frag
/-! ### objects, written out: each piece is looked at, then handed on -/
section
variable {α : Type}
def wNat (n : Nat) (k : Nat → α) : α := HandSHeadRun.frNat n k
theorem wNat_eq (n : Nat) (k : Nat → α) : wNat n k = k n := HandSHeadRun.frNat_eq n k
def wList {β : Type} (f : β → (β → α) → α) : List β → (List β → α) → α
  | [], k => k []
  | x :: r, k => f x fun x => wList f r fun r => k (x :: r)
theorem wList_eq {β : Type} {f : β → (β → α) → α} (hf : ∀ x k, f x k = k x) : ∀ (l : List β) (k : List β → α), wList f l k = k l
  | [], _ => rfl
  | x :: r, k => by
    show f x (fun x => wList f r fun r => k (x :: r)) = _
    rw [hf, wList_eq hf r]
def wV (v : Value) (k : Value → α) : α := match v with
  | .none => k .none
  | .ellipsis => k .ellipsis
  | .notImplemented => k .notImplemented
  | .bool b => (match b with
    | true => k (.bool true)
    | false => k (.bool false))
  | .int i t => (match i with
    | .ofNat n => wNat n fun n => k (.int (.ofNat n) t)
    | .negSucc n => wNat n fun n => k (.int (.negSucc n) t))
  | .float b t => k (.float b t)
  | .str s t => (match s with
    | ⟨⟨l⟩⟩ => wList wNat l fun l => k (.str ⟨⟨l⟩⟩ t))
  | .bytes b t => k (.bytes b t)
  | .type n => k (.type n)
  | .builtin n => k (.builtin n)
  | .ref a => wNat a fun a => k (.ref a)
theorem wV_eq (v : Value) (k : Value → α) : wV v k = k v := by
  cases v with
  | bool b => cases b <;> rfl
  | int i t =>
    cases i with
    | ofNat n => exact wNat_eq n fun n => k (.int (.ofNat n) t)
    | negSucc n => exact wNat_eq n fun n => k (.int (.negSucc n) t)
  | str s t =>
    obtain ⟨⟨l⟩⟩ := s
    exact wList_eq wNat_eq l fun l => k (.str ⟨⟨l⟩⟩ t)
  | ref a => exact wNat_eq a fun a => k (.ref a)
  | _ => rfl
def wE (e : DictEntry) (k : DictEntry → α) : α := match e with
  | ⟨h, x, v⟩ => wV x fun x => wV v fun v => k ⟨h, x, v⟩
theorem wE_eq (e : DictEntry) (k : DictEntry → α) : wE e k = k e := by
  obtain ⟨h, x, v⟩ := e
  show wV x (fun x => wV v fun v => k ⟨h, x, v⟩) = _
  rw [wV_eq, wV_eq]
def wO {β : Type} (f : β → (β → α) → α) (o : Option β) (k : Option β → α) : α := match o with
  | some x => f x fun x => k (some x)
  | none => k none
theorem wO_eq {β : Type} {f : β → (β → α) → α} (hf : ∀ x k, f x k = k x) (o : Option β) (k : Option β → α) : wO f o k = k o := by
  cases o with
  | none => rfl
  | some x => exact hf x fun x => k (some x)
def wC (p : Str × Addr) (k : Str × Addr → α) : α := match p with
  | (x, a) => wNat a fun a => k (x, a)
theorem wC_eq (p : Str × Addr) (k : Str × Addr → α) : wC p k = k p := by
  obtain ⟨x, a⟩ := p
  exact wNat_eq a fun a => k (x, a)
def wA {β : Type} (f : β → (β → α) → α) (o : Array β) (k : Array β → α) : α := match o with
  | ⟨l⟩ => wList f l fun l => k ⟨l⟩
theorem wA_eq {β : Type} {f : β → (β → α) → α} (hf : ∀ x k, f x k = k x) (o : Array β) (k : Array β → α) : wA f o k = k o := by
  obtain ⟨l⟩ := o
  exact wList_eq hf l fun l => k ⟨l⟩
def wF (f : FuncData) (k : FuncData → α) : α := match f with
  | ⟨n1, n2, n3, n4, n5, n6, n7, n8, n9, n10, n11, n12, n13, n14, n15⟩ => wNat n6 fun n6 => wList wC n7 fun n7 => wV n8 fun n8 => wV n13 fun n13 => wNat n15 fun n15 => k ⟨n1, n2, n3, n4, n5, n6, n7, n8, n9, n10, n11, n12, n13, n14, n15⟩
theorem wF_eq (f : FuncData) (k : FuncData → α) : wF f k = k f := by
  obtain ⟨n1, n2, n3, n4, n5, n6, n7, n8, n9, n10, n11, n12, n13, n14, n15⟩ := f
  unfold wF
  dsimp only
  rw [wNat_eq, wList_eq wC_eq, wV_eq, wV_eq, wNat_eq]
def wK (c : ClassData) (k : ClassData → α) : α := match c with
  | ⟨n1, n2, n3, n4, n5, n6, n7, n8, n9, n10, n11⟩ => wList wV n3 fun n3 => wNat n4 fun n4 => k ⟨n1, n2, n3, n4, n5, n6, n7, n8, n9, n10, n11⟩
theorem wK_eq (c : ClassData) (k : ClassData → α) : wK c k = k c := by
  obtain ⟨n1, n2, n3, n4, n5, n6, n7, n8, n9, n10, n11⟩ := c
  unfold wK
  dsimp only
  rw [wList_eq wV_eq, wNat_eq]
def wD (d : Data) (k : Data → α) : α := match d with
  | .plain => k .plain
  | .prim v => wV v fun v => k (.prim v)
  | .seq its n => wA wV its fun its => k (.seq its n)
  | .dict es n => wA wE es fun es => k (.dict es n)
  | .set es n t => k (.set es n t)
  | .bytearray b n => k (.bytearray b n)
  | .cell v => wO wV v fun v => k (.cell v)
  | .func f => wF f fun f => k (.func f)
  | .cls c => wK c fun c => k (.cls c)
  | .fields vs => wA wV vs fun vs => k (.fields vs)
  | .freed => k .freed
theorem wD_eq (d : Data) (k : Data → α) : wD d k = k d := by
  cases d with
  | prim v => exact wV_eq v fun v => k (.prim v)
  | seq its n => exact wA_eq wV_eq its fun its => k (.seq its n)
  | dict es n => exact wA_eq wE_eq es fun es => k (.dict es n)
  | cell v => exact wO_eq wV_eq v fun v => k (.cell v)
  | func f => exact wF_eq f fun f => k (.func f)
  | cls c => exact wK_eq c fun c => k (.cls c)
  | fields vs => exact wA_eq wV_eq vs fun vs => k (.fields vs)
  | _ => rfl
def wObj (o : Obj) (k : Obj → α) : α := match o with
  | ⟨c, d, dt, sl⟩ => wV c fun c => wO wNat d fun d => wD dt fun dt => wA (wO wV) sl fun sl => k ⟨c, d, dt, sl⟩
theorem wObj_eq (o : Obj) (k : Obj → α) : wObj o k = k o := by
  obtain ⟨c, d, dt, sl⟩ := o
  unfold wObj
  dsimp only
  rw [wV_eq, wO_eq wNat_eq, wD_eq, wA_eq (wO_eq wV_eq)]
end
/-! ### the part of the heap -/
def refsF (o : Obj) : List Addr := match o.data with
  | .seq its _ => its.toList.flatMap refV
  | .dict es _ => es.toList.flatMap fun e => refV e.val
  | .func fd => refV fd.code ++ (refV fd.defaults ++ fd.closure.map (·.2))
  | .cls cd => cd.ns :: cd.mro.flatMap refV
  | _ => []
def hasA (a : Addr) : Fr → Bool
  | [] => false
  | (b, _) :: r => match Nat.beq b a with
    | true => true
    | false => hasA a r
section
variable {α : Type} (g : Addr → Option Obj)
def addC : List Addr → Fr → List Addr → (Fr → List Addr → α) → α
  | [], K, fr, k => k K fr
  | a :: r, K, fr, k => wNat a fun a => match hasA a K with
    | true => addC r K fr k
    | false => match g a with
      | some o => wObj o fun o => wList wNat (refsF o) fun rs => addC r ((a, o) :: K) (rs ++ fr) k
      | none => addC r K fr k
def levC : Nat → List Addr → Fr → (Fr → α) → α
  | 0, _, K, k => k K
  | n + 1, fr, K, k => addC g fr K [] fun K fr => levC n fr K k
def revC : Fr → Fr → (Fr → α) → α
  | [], acc, k => k acc
  | p :: r, acc, k => revC r (p :: acc) k
/-- what the module's names reach in n steps, and cStatics -/
def topC (n : Nat) (k : Fr → α) : α := levC g n [mainGlobals] [] fun K => addC g [cStatics] K [] fun K _ => revC K [] k
end
def Good (g : Addr → Option Obj) (K : Fr) : Prop := ∀ p ∈ K, g p.1 = some p.2
section
variable {g : Addr → Option Obj}
theorem addC_ok : ∀ (l : List Addr) (K : Fr) (fr : List Addr), ∃ K' fr', (Good g K → Good g K') ∧ ∀ (α : Type) (k : Fr → List Addr → α), addC g l K fr k = k K' fr'
  | [], K, fr => ⟨K, fr, id, fun _ _ => rfl⟩
  | a :: r, K, fr => by
    have e : ∀ (α : Type) (k : Fr → List Addr → α), addC g (a :: r) K fr k = match hasA a K with
      | true => addC g r K fr k
      | false => match g a with
        | some o => addC g r ((a, o) :: K) (refsF o ++ fr) k
        | none => addC g r K fr k := fun α k => by
      show wNat a _ = _
      rw [wNat_eq]
      cases hasA a K with
      | true => rfl
      | false =>
        cases g a with
        | none => rfl
        | some o =>
          show wObj o _ = _
          rw [wObj_eq, wList_eq wNat_eq]
    cases h1 : hasA a K with
    | true =>
      obtain ⟨K', fr', h, q⟩ := addC_ok r K fr
      exact ⟨K', fr', h, fun α k => by rw [e, h1]; exact q α k⟩
    | false =>
      cases h2 : g a with
      | none =>
        obtain ⟨K', fr', h, q⟩ := addC_ok r K fr
        exact ⟨K', fr', h, fun α k => by rw [e, h1, h2]; exact q α k⟩
      | some o =>
        obtain ⟨K', fr', h, q⟩ := addC_ok r ((a, o) :: K) (refsF o ++ fr)
        refine ⟨K', fr', fun z => h fun p hp => ?_, fun α k => by rw [e, h1, h2]; exact q α k⟩
        rcases List.mem_cons.mp hp with rfl | hp
        · exact h2
        · exact z p hp
theorem levC_ok : ∀ (n : Nat) (fr : List Addr) (K : Fr), ∃ K', (Good g K → Good g K') ∧ ∀ (α : Type) (k : Fr → α), levC g n fr K k = k K'
  | 0, fr, K => ⟨K, id, fun _ _ => rfl⟩
  | n + 1, fr, K => by
    obtain ⟨K1, fr1, h1, q1⟩ := addC_ok (g := g) fr K []
    obtain ⟨K2, h2, q2⟩ := levC_ok n fr1 K1
    exact ⟨K2, fun z => h2 (h1 z), fun α k => (q1 α _).trans (q2 α k)⟩
theorem revC_ok : ∀ (K acc : Fr), ∃ K', (Good g K → Good g acc → Good g K') ∧ ∀ (α : Type) (k : Fr → α), revC K acc k = k K'
  | [], acc => ⟨acc, fun _ z => z, fun _ _ => rfl⟩
  | p :: r, acc => by
    obtain ⟨K', h, q⟩ := revC_ok r (p :: acc)
    refine ⟨K', fun z1 z2 => h (fun x hx => z1 x (List.mem_cons_of_mem _ hx)) fun x hx => ?_, fun α k => q α k⟩
    rcases List.mem_cons.mp hx with rfl | hx
    · exact z1 _ (List.mem_cons_self ..)
    · exact z2 x hx
theorem topC_ok (n : Nat) : ∃ K, Good g K ∧ ∀ (α : Type) (k : Fr → α), topC g n k = k K := by
  obtain ⟨K1, h1, q1⟩ := levC_ok (g := g) n [mainGlobals] []
  obtain ⟨K2, fr2, h2, q2⟩ := addC_ok (g := g) [cStatics] K1 []
  obtain ⟨K3, h3, q3⟩ := revC_ok (g := g) K2 []
  exact ⟨K3, h3 (h2 (h1 fun p hp => nomatch hp)) fun p hp => (nomatch hp), fun α k => (q1 α _).trans ((q2 α _).trans (q3 α k))⟩
end
theorem lookup_mem' {a : Addr} {o : Obj} : ∀ {l : List (Addr × Obj)}, l.lookup a = some o → (a, o) ∈ l
  | [], h => by cases h
  | (b, u) :: r, h => by
    have h2 : (match a == b with | true => some u | false => r.lookup a) = some o := h
    cases q : (a == b) with
    | true =>
      rw [q] at h2
      have e : u = o := Option.some.inj h2
      rw [beq_iff_eq.mp q, e]
      exact List.mem_cons_self ..
    | false =>
      rw [q] at h2
      exact List.mem_cons_of_mem _ (lookup_mem' h2)
theorem good_in {h : Heap} {K : Fr} (z : Good h.get? K) : K.In h := fun a o e => z (a, o) (lookup_mem' e)
/-! ### defs -/
/-- a def: where it stands, names, parameters, body, scope, defaults, the class that its cell __class__ holds -/
structure DefF where
  at_ : Str × Option Str
  name : Str
  qual : Str
  params : Arguments
  body : List Stmt
  scope : Scope
  dfl : List Dv := []
  own : Option Str := none
abbrev FnV : Type := Option (Str × Str × Arguments × FuncBody × Scope × Addr × List Str × Addr)
def fnV (K : Fr) (p : Str × Option Str) : FnV := match K.lookup (fAd K p) with
  | some ⟨_, _, .func fd, _⟩ => some (fd.name, fd.qualname, fd.params, fd.body, fd.scope, fd.globals, fd.closure.map (·.1), fd.builtins)
  | _ => none
def DefF.clo (d : DefF) : List Str := match d.own with
  | none => []
  | some _ => ["__class__"]
def DefF.val (d : DefF) : FnV := some (d.name, d.qual, d.params, .stmts d.body, d.scope, mainGlobals, d.clo, builtinsNs)
def cellB (K : Fr) (file : Str) (C : Str) (fd : FuncData) : Bool := match fd.closure, fd.code with
  | [(_, cc)], .ref cd => (match K.lookup cc with
    | some ⟨_, _, .cell (some (.ref c)), _⟩ => decide (c = ga K C)
    | _ => false) && (match K.lookup cd with
    | some ⟨_, _, .fields vs, _⟩ => (match (vs[2]? : Option Value) with
      | some (.str s _) => decide (s = file)
      | _ => false)
    | _ => false)
  | _, _ => false
def DefF.ok (file : Str) (K : Fr) (d : DefF) : Bool := PySem.W.keepIn K (.ref (fAd K d.at_)) && (match K.lookup (fAd K d.at_) with
  | some ⟨_, _, .func fd, _⟩ => PySem.W.codeIn K fd.code d.qual && (dflB K fd.defaults (d.dfl.map (Dv.v K)) && (match d.own with
    | none => true
    | some C => cellB K file C fd))
  | _ => false)
theorem DefF.out {file : Str} {K : Fr} {d : DefF} (e : fnV K d.at_ = d.val) (c : d.ok file K = true) :
    ∃ oc od dV kV doc pm an cdv ct clo osl, K.lookup (fAd K d.at_) = some ⟨oc, od, .func (PySem.W.fnX d.name d.qual d.params d.body d.scope clo dV kV doc pm an cdv ct), osl⟩ ∧ clo.map (·.1) = d.clo ∧
      PySem.W.codeIn K cdv d.qual = true ∧ dflB K dV (d.dfl.map (Dv.v K)) = true ∧ (match d.own with
        | none => true
        | some C => cellB K file C (PySem.W.fnX d.name d.qual d.params d.body d.scope clo dV kV doc pm an cdv ct)) = true ∧ PySem.W.keepIn K (.ref (fAd K d.at_)) = true := by
  obtain ⟨kp, c2⟩ := ba c
  unfold fnV at e
  cases q : K.lookup (fAd K d.at_) with
  | none =>
    rw [q] at c2
    cases c2
  | some o =>
    obtain ⟨oc, od, dt, osl⟩ := o
    rw [q] at c2 e
    cases dt with
    | func fd =>
      obtain ⟨n1, n2, n3, n4, n5, n6, n7, n8, n9, n10, n11, n12, n13, n14, n15⟩ := fd
      have e2 : (some (n1, n2, n3, n4, n5, n6, n7.map (·.1), n15) : FnV) = some (d.name, d.qual, d.params, .stmts d.body, d.scope, mainGlobals, d.clo, builtinsNs) := e
      simp only [Option.some.injEq, Prod.mk.injEq] at e2
      obtain ⟨h1, h2, h3, h4, h5, h6, h7, h8⟩ := e2
      subst h1 h2 h3 h4 h5 h6 h8
      obtain ⟨k1, k2⟩ := ba c2
      obtain ⟨k3, k4⟩ := ba k2
      exact ⟨oc, od, n8, n9, n10, n11, n12, n13, n14, n7, osl, rfl, h7, k1, k3, k4, kp⟩
    | _ => cases c2
theorem dfl_nil {K : Fr} {dV : Value} (h : dflB K dV [] = true) : dV = .none := by
  cases dV with
  | none => rfl
  | _ => cases h
theorem dfl_cons {K : Fr} {dV : Value} {v : V} {vs : List V} (h : dflB K dV (v :: vs) = true) : ∃ T dc dd l n dsl, dV = .ref T ∧ K.lookup T = some ⟨dc, dd, .seq (List.toArray l) n, dsl⟩ ∧ Vals (v :: vs) l := by
  cases dV with
  | ref T =>
    have h1 : (match K.lookup T with
      | some ⟨_, _, .seq its _, _⟩ => relAll (v :: vs) its.toList
      | _ => false) = true := h
    cases q : K.lookup T with
    | none =>
      rw [q] at h1
      cases h1
    | some o =>
      obtain ⟨oc, od, dt, osl⟩ := o
      rw [q] at h1
      cases dt with
      | seq its n => exact ⟨T, oc, od, its.toList, n, osl, rfl, q.trans (by rw [Array.toArray_toList]), relAll_ok h1⟩
      | _ => cases h1
  | _ => cases h
theorem vals_cons {v : V} {vs : List V} {l : List Value} (h : Vals (v :: vs) l) : ∃ u r, l = u :: r ∧ RelV v u ∧ Vals vs r := by
  cases h with
  | cons a b => exact ⟨_, _, rfl, a, b⟩
theorem vals_nil {l : List Value} (h : Vals [] l) : l = [] := by
  cases h
  rfl
theorem vals_str {x : Str} {vs : List V} {l : List Value} (h : Vals (.str x :: vs) l) : ∃ t r, l = .str x t :: r ∧ Vals vs r := by
  obtain ⟨u, r, rfl, ⟨t, rfl⟩, z⟩ := vals_cons h
  exact ⟨t, r, rfl, z⟩
theorem vals_int {x : Int} {vs : List V} {l : List Value} (h : Vals (.int x :: vs) l) : ∃ t r, l = .int x t :: r ∧ Vals vs r := by
  obtain ⟨u, r, rfl, ⟨t, rfl⟩, z⟩ := vals_cons h
  exact ⟨t, r, rfl, z⟩
theorem vals_ref {x : Addr} {vs : List V} {l : List Value} (h : Vals (.ref x :: vs) l) : ∃ r, l = .ref x :: r ∧ Vals vs r := by
  obtain ⟨u, r, rfl, e, z⟩ := vals_cons h
  cases e
  exact ⟨r, rfl, z⟩
theorem vals_bl {x : Bool} {vs : List V} {l : List Value} (h : Vals (.bl x :: vs) l) : ∃ r, l = .bool x :: r ∧ Vals vs r := by
  obtain ⟨u, r, rfl, e, z⟩ := vals_cons h
  cases e
  exact ⟨r, rfl, z⟩
theorem vals_non {vs : List V} {l : List Value} (h : Vals (.non :: vs) l) : ∃ r, l = .none :: r ∧ Vals vs r := by
  obtain ⟨u, r, rfl, e, z⟩ := vals_cons h
  cases e
  exact ⟨r, rfl, z⟩
theorem cell_ok {K : Fr} {file C : Str} {fd : FuncData} (h : cellB K file C fd = true) (hn : fd.closure.map (·.1) = [("__class__" : Str)]) :
    ∃ cc cda ccl cdd ccs vs0 tf cl cld csl, fd.closure = [(("__class__" : Str), cc)] ∧ fd.code = .ref cda ∧ K.lookup cda = some ⟨ccl, cdd, .fields vs0, ccs⟩ ∧ vs0[2]? = some (.str file tf) ∧ K.lookup cc = some ⟨cl, cld, .cell (some (.ref (ga K C))), csl⟩ := by
  obtain ⟨n1, n2, n3, n4, n5, n6, clo, n8, n9, n10, n11, n12, cdv, n14, n15⟩ := fd
  match clo, cdv, h, hn with
  | [(x, cc)], .ref cd, h, hn =>
    have ex : x = "__class__" := (List.cons.inj hn).1
    subst ex
    obtain ⟨h1, h2⟩ := ba (show ((match K.lookup cc with
    | some ⟨_, _, .cell (some (.ref c)), _⟩ => decide (c = ga K C)
    | _ => false) && (match K.lookup cd with
    | some ⟨_, _, .fields vs, _⟩ => (match (vs[2]? : Option Value) with
      | some (.str s _) => decide (s = file)
      | _ => false)
    | _ => false)) = true from h)
    split at h1
    · rename_i o1 o2 c o3 e1
      split at h2
      · rename_i p1 p2 vs p3 e2
        split at h2
        · rename_i s t e3
          have ec := of_decide_eq_true h1
          have es := of_decide_eq_true h2
          subst ec es
          exact ⟨cc, cd, _, _, _, vs, t, _, _, _, rfl, rfl, e2, e3, e1⟩
        · cases h2
      · cases h2
    · cases h1
/-! ### own classes under ValueError -/
def vexB (K : Fr) (C : Addr) : Bool := match K.lookup C with
  | some ⟨.type c, _, .cls cd, sl⟩ => decide (c = "type") && (match cd.mro, sl.toList with
    | .ref c' :: bm, [_, _, _, _, some (.builtin n), _] => decide (c' = C) && (decide (n = "ValueError.__new__") && (!cd.hasDel && (cd.hasDict && PySem.HandSPX.refsVE bm)))
    | _, _ => false)
  | _ => false
theorem vex_ok {K : Fr} {C : Addr} (h : vexB K C = true) : ∃ nm q N bs bm sn sub ab col dd k0 k1 k2 k3 k5, K.lookup C = some (excClassObj nm q C N bs bm true sn sub ab col dd k0 k1 k2 k3 k5 "ValueError.__new__") ∧ PySem.HandSPX.refsVE bm = true := by
  unfold vexB at h
  split at h
  · rename_i c dd cd sl e
    obtain ⟨h0, h1⟩ := ba h
    have e0 := of_decide_eq_true h0
    subst e0
    obtain ⟨nm, bs, mro, ns, qn, hd, sn, sub, ab, col, del⟩ := cd
    obtain ⟨l⟩ := sl
    split at h1
    · rename_i c' bm k0 k1 k2 k3 n k5 hm hs
      obtain ⟨a1, h2⟩ := ba h1
      obtain ⟨a2, h3⟩ := ba h2
      obtain ⟨a3, h4⟩ := ba h3
      obtain ⟨a4, a5⟩ := ba h4
      have b1 := of_decide_eq_true a1
      have b2 := of_decide_eq_true a2
      have b3 : del = false := by
        cases del with
        | false => rfl
        | true => cases a3
      have b4 : hd = true := a4
      have b5 : mro = .ref c' :: bm := hm
      have b6 : l = _ := hs
      subst b1 b2 b3 b4 b5 b6
      exact ⟨nm, qn, ns, bs, bm, sn, sub, ab, col, dd, k0, k1, k2, k3, k5, e, a5⟩
    · cases h1
  · cases h
/-! ### constants, tables -/
def intB (K : Fr) (x : Str) (i : Int) : Bool := match PySem.W.nsIn K mainGlobals x with
  | some (some (.int j _)) => decide (j = i)
  | _ => false
theorem int_ok {K : Fr} {x : Str} {i : Int} (h : intB K x i = true) : ∃ t, PySem.W.nsIn K mainGlobals x = some (some (.int i t)) := by
  unfold intB at h
  split at h
  · rename_i j t e
    have ej := of_decide_eq_true h
    subst ej
    exact ⟨t, e⟩
  · cases h
def strB (K : Fr) (x z : Str) : Bool := match PySem.W.nsIn K mainGlobals x with
  | some (some (.str y _)) => decide (y = z)
  | _ => false
theorem str_ok {K : Fr} {x z : Str} (h : strB K x z = true) : ∃ t, PySem.W.nsIn K mainGlobals x = some (some (.str z t)) := by
  unfold strB at h
  split at h
  · rename_i j t e
    have ej := of_decide_eq_true h
    subst ej
    exact ⟨t, e⟩
  · cases h
/-- a tuple of these at a -/
def tupAt (K : Fr) (a : Addr) (vs : List Dv) : Bool := match K.lookup a with
  | some ⟨.type c, _, .seq its _, _⟩ => decide (c = "tuple") && relAll (vs.map (Dv.v K)) its.toList
  | _ => false
theorem tup_ok {K : Fr} {a : Addr} {vs : List Dv} (h : tupAt K a vs = true) : ∃ od l n sl, K.lookup a = some ⟨.type "tuple", od, .seq (List.toArray l) n, sl⟩ ∧ Vals (vs.map (Dv.v K)) l := by
  unfold tupAt at h
  split at h
  · rename_i c od its n sl e
    obtain ⟨h1, h2⟩ := ba h
    have e1 := of_decide_eq_true h1
    subst e1
    exact ⟨od, its.toList, n, sl, e.trans (by rw [Array.toArray_toList]), relAll_ok h2⟩
  · cases h
/-- the i-th value of the dict at a -/
def valAt (K : Fr) (a : Addr) (i : Nat) : Addr := match K.lookup a with
  | some ⟨_, _, .dict es _, _⟩ => (match es.toList[i]? with
    | some e => (match e.val with
      | .ref b => b
      | _ => 0)
    | none => 0)
  | _ => 0
/-- the values of the dict at a are objects -/
def refsB (K : Fr) (a : Addr) : Bool := match K.lookup a with
  | some ⟨_, _, .dict es _, _⟩ => es.toList.all fun e => match e.val with
    | .ref _ => true
    | _ => false
  | _ => false
theorem dic_cons {P : Params} {k : Str} {ks : List Str} {l : List DictEntry} (h : l.map He.keyOf = He.keysIn P (k :: ks)) (hr : (l.all fun e => match e.val with | .ref _ => true | _ => false) = true) :
    ∃ x t v r, l = ⟨x, .str k t, .ref v⟩ :: r ∧ x = PyData.keyHash P k ∧ r.map He.keyOf = He.keysIn P ks ∧ (r.all fun e => match e.val with | .ref _ => true | _ => false) = true := by
  match l, h, hr with
  | e :: r, h, hr =>
    have h1 : He.keyOf e :: r.map He.keyOf = some (k, PyData.keyHash P k) :: He.keysIn P ks := h
    injection h1 with h2 h3
    obtain ⟨r1, r2⟩ := ba (show ((match e.val with | .ref _ => true | _ => false) && r.all fun e => match e.val with | .ref _ => true | _ => false) = true from hr)
    obtain ⟨x, ky, vl⟩ := e
    unfold He.keyOf at h2
    split at h2
    · rename_i y t q
      have h4 := Option.some.inj h2
      obtain ⟨h5, h6⟩ := Prod.mk.inj h4
      have q' : ky = .str y t := q
      subst q' h5
      cases vl with
      | ref v => exact ⟨x, t, v, r, rfl, h6, h3, r2⟩
      | _ => cases r1
    · cases h2
theorem dic_nil {P : Params} {l : List DictEntry} (h : l.map He.keyOf = He.keysIn P []) : l = [] := by
  cases l with
  | nil => rfl
  | cons _ _ => cases h
theorem dic_ok {K : Fr} {P : Params} {a : Addr} {ks : List Str} (h : dicW K a = some (He.keysIn P ks)) (hr : refsB K a = true) :
    ∃ l n, K.lookup a = some ⟨.type "dict", none, .dict (List.toArray l) n, #[]⟩ ∧ (a == sysModules) = false ∧ l.map He.keyOf = He.keysIn P ks ∧ (l.all fun e => match e.val with | .ref _ => true | _ => false) = true := by
  unfold dicW at h
  split at h
  · rename_i c es n sl e
    split at h
    · rename_i z
      obtain ⟨z1, z2⟩ := ba z
      obtain ⟨z3, z4⟩ := ba z2
      have e1 := of_decide_eq_true z1
      have e2 := Array.isEmpty_iff.mp z3
      subst e1 e2
      have e3 : (a == sysModules) = false := by
        cases y : a == sysModules with
        | false => rfl
        | true =>
          rw [y] at z4
          cases z4
      unfold refsB at hr
      rw [e] at hr
      exact ⟨es.toList, n, e.trans (by rw [Array.toArray_toList]), e3, Option.some.inj h, hr⟩
    · cases h
  · cases h
/-! ### the Hook -/
abbrev Ex : Type := List (List (Fr → Bool))
abbrev AlF : Type := Bool × List FnV × List (Option (List (Option (Str × Int))))
def obsF (file : Str) (ex : Ex) (fn : List DefF) (ts : List Tab) (K : Fr) : AlF := ((ex.all fun l => l.all fun f => f K) && fn.all fun d => d.ok file K, fn.map fun d => fnV K d.at_, ts.map fun t => dicW K (t.1 K))
def valF (fn : List DefF) (ts : List Tab) (w : World) : AlF := (true, fn.map DefF.val, ts.map fun t => some (He.keysIn w.params t.2))
def Says (file : Str) (ex : Ex) (fn : List DefF) (ts : List Tab) (w : World) (K : Fr) : Prop := obsF file ex fn ts K = valF fn ts w
def obsFG (n : Nat) (file : Str) (ex : Ex) (fn : List DefF) (ts : List Tab) (g : Addr → Option Obj) : AlF := topC g n fun K => obsF file ex fn ts K
def hookF (n : Nat) (file : Str) (ex : Ex) (fn : List DefF) (ts : List Tab) : PySem.W.Hook where
  α := AlF
  obs := fun s => obsFG n file ex fn ts s.heap.get?
  val := fun w => valF fn ts w
  says := fun w h => ∃ K : Fr, K.In h ∧ Says file ex fn ts w K
  of := fun w s e => by
    obtain ⟨K, h, q⟩ := topC_ok (g := s.heap.get?) n
    exact ⟨K, good_in h, (q _ _).symm.trans e⟩
  keeps := fun _ _ _ ⟨K, hK, c⟩ k => ⟨K, PySem.W.Frag.In.keeps hK k, c⟩
theorem obsFG_eq {n : Nat} {file : Str} {ex : Ex} {fn : List DefF} {ts : List Tab} {g : Addr → Option Obj} {s : Shared} (h : ∀ a, g a = s.heap.get? a) : obsFG n file ex fn ts g = (hookF n file ex fn ts).obs s := by
  have e : g = s.heap.get? := funext h
  rw [e] <;> rfl
section
variable {file : Str} {ex : Ex} {fn : List DefF} {ts : List Tab} {w : World} {K : Fr}
theorem Says.get (c : Says file ex fn ts w K) (i j : Nat) {f : Fr → Bool} (h : (ex[i]?.bind fun l => l[j]?) = some f) : f K = true := by
  have c1 := (ba (show ((ex.all fun l => l.all fun f => f K) && fn.all fun d => d.ok file K) = true from congrArg (fun z : AlF => z.1) c)).1
  cases e : ex[i]? with
  | none =>
    rw [e] at h
    cases h
  | some l =>
    rw [e] at h
    exact List.all_eq_true.mp (List.all_eq_true.mp c1 l (List.mem_of_getElem? e)) f (List.mem_of_getElem? h)
theorem Says.def_ (c : Says file ex fn ts w K) (i : Nat) {d : DefF} (h : fn[i]? = some d) :
    ∃ oc od dV kV doc pm an cdv ct clo osl, K.lookup (fAd K d.at_) = some ⟨oc, od, .func (PySem.W.fnX d.name d.qual d.params d.body d.scope clo dV kV doc pm an cdv ct), osl⟩ ∧ clo.map (·.1) = d.clo ∧
      PySem.W.codeIn K cdv d.qual = true ∧ dflB K dV (d.dfl.map (Dv.v K)) = true ∧ (match d.own with
        | none => true
        | some C => cellB K file C (PySem.W.fnX d.name d.qual d.params d.body d.scope clo dV kV doc pm an cdv ct)) = true ∧ PySem.W.keepIn K (.ref (fAd K d.at_)) = true := by
  have c2 := (ba (show ((ex.all fun l => l.all fun f => f K) && fn.all fun d => d.ok file K) = true from congrArg (fun z : AlF => z.1) c)).2
  have e : fn.map (fun d => fnV K d.at_) = fn.map DefF.val := congrArg (fun z : AlF => z.2.1) c
  have e2 : (fn.map fun d => fnV K d.at_)[i]? = (fn.map DefF.val)[i]? := by rw [e]
  rw [List.getElem?_map, List.getElem?_map, h] at e2
  exact DefF.out (Option.some.inj e2) (List.all_eq_true.mp c2 d (List.mem_of_getElem? h))
/-- a def without defaults -/
theorem Says.plain (c : Says file ex fn ts w K) (i : Nat) {p : Str × Option Str} {x q : Str} {pa : Arguments} {bo : List Stmt} {sc : Scope} (h : fn[i]? = some ⟨p, x, q, pa, bo, sc, [], none⟩) :
    ∃ oc od kV doc pm an cdv ct osl, K.lookup (fAd K p) = some ⟨oc, od, .func (PySem.W.fnOf x q pa bo sc .none kV doc pm an cdv ct), osl⟩ ∧ PySem.W.codeIn K cdv q = true ∧ PySem.W.keepIn K (.ref (fAd K p)) = true := by
  obtain ⟨oc, od, dV, kV, doc, pm, an, cdv, ct, clo, osl, e, hc, h1, h2, _, h4⟩ := c.def_ i h
  have hd := dfl_nil h2
  have hcl : clo = [] := List.map_eq_nil_iff.mp hc
  subst hd hcl
  exact ⟨oc, od, kV, doc, pm, an, cdv, ct, osl, e, h1, h4⟩
/-- a def with defaults -/
theorem Says.dflt (c : Says file ex fn ts w K) (i : Nat) {p : Str × Option Str} {x q : Str} {pa : Arguments} {bo : List Stmt} {sc : Scope} {v : Dv} {vs : List Dv} (h : fn[i]? = some ⟨p, x, q, pa, bo, sc, v :: vs, none⟩) :
    ∃ oc od dT kV doc pm an cdv ct osl dc dd l n dsl, K.lookup (fAd K p) = some ⟨oc, od, .func (PySem.W.fnOf x q pa bo sc (.ref dT) kV doc pm an cdv ct), osl⟩ ∧ PySem.W.codeIn K cdv q = true ∧ PySem.W.keepIn K (.ref (fAd K p)) = true ∧
      K.lookup dT = some ⟨dc, dd, .seq (List.toArray l) n, dsl⟩ ∧ Vals (v.v K :: vs.map (Dv.v K)) l := by
  obtain ⟨oc, od, dV, kV, doc, pm, an, cdv, ct, clo, osl, e, hc, h1, h2, _, h4⟩ := c.def_ i h
  have hcl : clo = [] := List.map_eq_nil_iff.mp hc
  subst hcl
  obtain ⟨T, dc, dd, l, n, dsl, e1, e2, e3⟩ := dfl_cons h2
  subst e1
  exact ⟨oc, od, T, kV, doc, pm, an, cdv, ct, osl, dc, dd, l, n, dsl, e, h1, h4, e2, e3⟩
/-- an own error's __init__ -/
theorem Says.init (c : Says file ex fn ts w K) (i : Nat) {p : Str × Option Str} {x q C : Str} {pa : Arguments} {bo : List Stmt} {sc : Scope} (h : fn[i]? = some ⟨p, x, q, pa, bo, sc, [], some C⟩) :
    ∃ oc od kV doc pm an cda ct cc osl ccl cdd ccs vs0 tf cl cld csl, K.lookup (fAd K p) = some ⟨oc, od, .func (PySem.W.ksFn x q pa bo sc .none kV doc pm an (.ref cda) ct cc), osl⟩ ∧ PySem.W.codeIn K (.ref cda) q = true ∧
      K.lookup cda = some ⟨ccl, cdd, .fields vs0, ccs⟩ ∧ vs0[2]? = some (.str file tf) ∧ K.lookup cc = some ⟨cl, cld, .cell (some (.ref (ga K C))), csl⟩ := by
  obtain ⟨oc, od, dV, kV, doc, pm, an, cdv, ct, clo, osl, e, hc, h1, h2, h3, h4⟩ := c.def_ i h
  have hd := dfl_nil h2
  subst hd
  obtain ⟨cc, cda, ccl, cdd, ccs, vs0, tf, cl, cld, csl, e1, e2, e3, e4, e5⟩ := cell_ok h3 hc
  have e1 : clo = _ := e1
  have e2 : cdv = _ := e2
  subst e1 e2
  exact ⟨oc, od, kV, doc, pm, an, cda, ct, cc, osl, ccl, cdd, ccs, vs0, tf, cl, cld, csl, e, h1, e3, e4, e5⟩
theorem Says.tab (c : Says file ex fn ts w K) (i : Nat) {f : Fr → Addr} {ks : List Str} (h : ts[i]? = some (f, ks)) : dicW K (f K) = some (He.keysIn w.params ks) := by
  have e : ts.map (fun t => dicW K (t.1 K)) = ts.map fun t => some (He.keysIn w.params t.2) := congrArg (fun z : AlF => z.2.2) c
  have e2 : (ts.map fun t => dicW K (t.1 K))[i]? = (ts.map fun t => some (He.keysIn w.params t.2))[i]? := by rw [e]
  rw [List.getElem?_map, List.getElem?_map, h] at e2
  exact Option.some.inj e2
end
end HdF
set_option Elab.async false
set_option linter.all false
set_option maxRecDepth 100000
set_option maxHeartbeats 0
namespace Toy
open PySem L2 NdefX Gm
open Mine hiding same_new
open Pz
/-- the written dict of forms -/
theorem mk_forms {K : PySem.W.Frag} {w : World} {a : Addr} {n : Nat} {h0 h1 h2 h3 h4 h5 h6 : Int} {t0 t1 t2 t3 t4 t5 t6 : Tok} {v0 v1 v2 v3 v4 v5 v6 : Addr} (low : (a == sysModules) = false)
    (l : K.lookup a = some ⟨.type "dict", none, .dict #[⟨h0, .str "set" t0, .ref v0⟩, ⟨h1, .str "let" t1, .ref v1⟩, ⟨h2, .str "draw" t2, .ref v2⟩, ⟨h3, .str "put" t3, .ref v3⟩, ⟨h4, .str "lot" t4, .ref v4⟩, ⟨h5, .str "ask" t5, .ref v5⟩, ⟨h6, .str "bad" t6, .ref v6⟩] n, #[]⟩)
    (k0 : h0 = PyData.keyHash w.params "set") (s0 : PySem.W.nsIn K a "set" = some (some (.ref v0))) (q0 : ∀ H, SqT K H v0 ((["variable", "expression"] : List Str).map V.str))
    (k1 : h1 = PyData.keyHash w.params "let") (s1 : PySem.W.nsIn K a "let" = some (some (.ref v1))) (q1 : ∀ H, SqT K H v1 ((["local", "expression"] : List Str).map V.str))
    (k2 : h2 = PyData.keyHash w.params "draw") (s2 : PySem.W.nsIn K a "draw" = some (some (.ref v2))) (q2 : ∀ H, SqT K H v2 ((["local", "number"] : List Str).map V.str))
    (k3 : h3 = PyData.keyHash w.params "put") (s3 : PySem.W.nsIn K a "put" = some (some (.ref v3))) (q3 : ∀ H, SqT K H v3 ((["table", "expression", "expression"] : List Str).map V.str))
    (k4 : h4 = PyData.keyHash w.params "lot") (s4 : PySem.W.nsIn K a "lot" = some (some (.ref v4))) (q4 : ∀ H, SqT K H v4 ((["local", "lots", "expression"] : List Str).map V.str))
    (k5 : h5 = PyData.keyHash w.params "ask") (s5 : PySem.W.nsIn K a "ask" = some (some (.ref v5))) (q5 : ∀ H, SqT K H v5 ((["local", "asked", "expression"] : List Str).map V.str))
    (k6 : h6 = PyData.keyHash w.params "bad") (s6 : PySem.W.nsIn K a "bad" = some (some (.ref v6))) (q6 : ∀ H, SqT K H v6 (([] : List Str).map V.str)) :
    FormsX K w a := by
  have lit : PySem.W.KeysLit w.params (#[⟨h0, .str "set" t0, .ref v0⟩, ⟨h1, .str "let" t1, .ref v1⟩, ⟨h2, .str "draw" t2, .ref v2⟩, ⟨h3, .str "put" t3, .ref v3⟩, ⟨h4, .str "lot" t4, .ref v4⟩, ⟨h5, .str "ask" t5, .ref v5⟩, ⟨h6, .str "bad" t6, .ref v6⟩] : Array DictEntry).toList := ⟨⟨_, _, rfl, k0⟩, ⟨_, _, rfl, k1⟩, ⟨_, _, rfl, k2⟩, ⟨_, _, rfl, k3⟩, ⟨_, _, rfl, k4⟩, ⟨_, _, rfl, k5⟩, ⟨_, _, rfl, k6⟩, trivial⟩
  · intro x hx
    unfold words at hx
    rcases List.mem_cons.mp hx with rfl | hx
    · have e : formOf "set" = (["variable", "expression"] : List Str) := by decide +kernel
      rw [e]
      exact ⟨v0, ⟨_, _, _, l, lit, s0, rfl⟩, q0⟩
    rcases List.mem_cons.mp hx with rfl | hx
    · have e : formOf "let" = (["local", "expression"] : List Str) := by decide +kernel
      rw [e]
      exact ⟨v1, ⟨_, _, _, l, lit, s1, rfl⟩, q1⟩
    rcases List.mem_cons.mp hx with rfl | hx
    · have e : formOf "draw" = (["local", "number"] : List Str) := by decide +kernel
      rw [e]
      exact ⟨v2, ⟨_, _, _, l, lit, s2, rfl⟩, q2⟩
    rcases List.mem_cons.mp hx with rfl | hx
    · have e : formOf "put" = (["table", "expression", "expression"] : List Str) := by decide +kernel
      rw [e]
      exact ⟨v3, ⟨_, _, _, l, lit, s3, rfl⟩, q3⟩
    rcases List.mem_cons.mp hx with rfl | hx
    · have e : formOf "lot" = (["local", "lots", "expression"] : List Str) := by decide +kernel
      rw [e]
      exact ⟨v4, ⟨_, _, _, l, lit, s4, rfl⟩, q4⟩
    rcases List.mem_cons.mp hx with rfl | hx
    · have e : formOf "ask" = (["local", "asked", "expression"] : List Str) := by decide +kernel
      rw [e]
      exact ⟨v5, ⟨_, _, _, l, lit, s5, rfl⟩, q5⟩
    rcases List.mem_cons.mp hx with rfl | hx
    · have e : formOf "bad" = ([] : List Str) := by decide +kernel
      rw [e]
      exact ⟨v6, ⟨_, _, _, l, lit, s6, rfl⟩, q6⟩
    cases hx
/-! ### the program's top -/
theorem all_mk {l : PySem.W.OpenLaw} {w : World} {K : PySem.W.Frag} {h : Heap} {mg : Str → Option Value} {fa : Addr} (X : K.In h) (G : h.Ns mainGlobals mg) (hfa : mg "law" = some (.ref fa))
    {C_Game : Addr}
    {od_law_cell an_law_cell : Option Addr} {sl_law_cell : Array (Option Value)} {oc_law_cell kV_law_cell dc_law_cell pm_law_cell cd_law_cell ct_law_cell : Value} {a_law_cell : Addr}
    {od_law_row an_law_row : Option Addr} {sl_law_row : Array (Option Value)} {oc_law_row kV_law_row dc_law_row pm_law_row cd_law_row ct_law_row : Value} {a_law_row : Addr}
    {od_law_side an_law_side : Option Addr} {sl_law_side : Array (Option Value)} {oc_law_side kV_law_side dc_law_side pm_law_side cd_law_side ct_law_side : Value} {a_law_side : Addr}
    {od_law_value an_law_value : Option Addr} {sl_law_value : Array (Option Value)} {oc_law_value kV_law_value dc_law_value pm_law_value cd_law_value ct_law_value : Value} {a_law_value : Addr}
    {od_law_plain an_law_plain : Option Addr} {sl_law_plain : Array (Option Value)} {oc_law_plain kV_law_plain dc_law_plain pm_law_plain cd_law_plain ct_law_plain : Value} {a_law_plain : Addr}
    {od_law_block an_law_block : Option Addr} {sl_law_block : Array (Option Value)} {oc_law_block kV_law_block dc_law_block pm_law_block cd_law_block ct_law_block : Value} {a_law_block : Addr}
    {od_law_game an_law_game : Option Addr} {sl_law_game : Array (Option Value)} {oc_law_game kV_law_game dc_law_game pm_law_game cd_law_game ct_law_game : Value} {a_law_game : Addr}
    {od_Game_init an_Game_init : Option Addr} {sl_Game_init : Array (Option Value)} {oc_Game_init kV_Game_init dc_Game_init pm_Game_init cd_Game_init ct_Game_init : Value} {a_Game_init : Addr}
    {od_Game_eq an_Game_eq : Option Addr} {sl_Game_eq : Array (Option Value)} {oc_Game_eq kV_Game_eq dc_Game_eq pm_Game_eq cd_Game_eq ct_Game_eq : Value} {a_Game_eq : Addr}
    {od_Game_proc an_Game_proc : Option Addr} {sl_Game_proc : Array (Option Value)} {oc_Game_proc kV_Game_proc dc_Game_proc pm_Game_proc cd_Game_proc ct_Game_proc : Value} {a_Game_proc : Addr}
    {od_require an_require : Option Addr} {sl_require : Array (Option Value)} {oc_require kV_require dc_require pm_require cd_require ct_require : Value} {a_require : Addr}
    {od_proc_of an_proc_of : Option Addr} {sl_proc_of : Array (Option Value)} {oc_proc_of kV_proc_of dc_proc_of pm_proc_of cd_proc_of ct_proc_of : Value} {a_proc_of : Addr}
    {od_statement_of an_statement_of : Option Addr} {sl_statement_of : Array (Option Value)} {oc_statement_of kV_statement_of dc_statement_of pm_statement_of cd_statement_of ct_statement_of : Value} {a_statement_of : Addr}
    {od_pair_of an_pair_of : Option Addr} {sl_pair_of : Array (Option Value)} {oc_pair_of kV_pair_of dc_pair_of pm_pair_of cd_pair_of ct_pair_of : Value} {a_pair_of : Addr}
    {od_with_proc an_with_proc : Option Addr} {sl_with_proc : Array (Option Value)} {oc_with_proc kV_with_proc dc_with_proc pm_with_proc cd_with_proc ct_with_proc : Value} {a_with_proc : Addr}
    {od_replaced an_replaced : Option Addr} {sl_replaced : Array (Option Value)} {oc_replaced kV_replaced dc_replaced pm_replaced cd_replaced ct_replaced : Value} {a_replaced : Addr}
    {od_every_expression an_every_expression : Option Addr} {sl_every_expression : Array (Option Value)} {oc_every_expression kV_every_expression dc_every_expression pm_every_expression cd_every_expression ct_every_expression : Value} {a_every_expression : Addr}
    {od_expression_reads an_expression_reads : Option Addr} {sl_expression_reads : Array (Option Value)} {oc_expression_reads kV_expression_reads dc_expression_reads pm_expression_reads cd_expression_reads ct_expression_reads : Value} {a_expression_reads : Addr}
    {od_reads_local an_reads_local : Option Addr} {sl_reads_local : Array (Option Value)} {oc_reads_local kV_reads_local dc_reads_local pm_reads_local cd_reads_local ct_reads_local : Value} {a_reads_local : Addr}
    {od_inner_blocks an_inner_blocks : Option Addr} {sl_inner_blocks : Array (Option Value)} {oc_inner_blocks kV_inner_blocks dc_inner_blocks pm_inner_blocks cd_inner_blocks ct_inner_blocks : Value} {a_inner_blocks : Addr}
    {od_every_statement an_every_statement : Option Addr} {sl_every_statement : Array (Option Value)} {oc_every_statement kV_every_statement dc_every_statement pm_every_statement cd_every_statement ct_every_statement : Value} {a_every_statement : Addr}
    {od_own_expressions an_own_expressions : Option Addr} {sl_own_expressions : Array (Option Value)} {oc_own_expressions kV_own_expressions dc_own_expressions pm_own_expressions cd_own_expressions ct_own_expressions : Value} {a_own_expressions : Addr}
    {od_block_reads an_block_reads : Option Addr} {sl_block_reads : Array (Option Value)} {oc_block_reads kV_block_reads dc_block_reads pm_block_reads cd_block_reads ct_block_reads : Value} {a_block_reads : Addr}
    {od_proc_reads an_proc_reads : Option Addr} {sl_proc_reads : Array (Option Value)} {oc_proc_reads kV_proc_reads dc_proc_reads pm_proc_reads cd_proc_reads ct_proc_reads : Value} {a_proc_reads : Addr}
    {od_own_writes an_own_writes : Option Addr} {sl_own_writes : Array (Option Value)} {oc_own_writes kV_own_writes dc_own_writes pm_own_writes cd_own_writes ct_own_writes : Value} {a_own_writes : Addr}
    {od_statement_reads an_statement_reads : Option Addr} {sl_statement_reads : Array (Option Value)} {oc_statement_reads kV_statement_reads dc_statement_reads pm_statement_reads cd_statement_reads ct_statement_reads : Value} {a_statement_reads : Addr}
    {od_statement_writes an_statement_writes : Option Addr} {sl_statement_writes : Array (Option Value)} {oc_statement_writes kV_statement_writes dc_statement_writes pm_statement_writes cd_statement_writes ct_statement_writes : Value} {a_statement_writes : Addr}
    {od_disturbs an_disturbs : Option Addr} {sl_disturbs : Array (Option Value)} {oc_disturbs kV_disturbs dc_disturbs pm_disturbs cd_disturbs ct_disturbs : Value} {a_disturbs : Addr}
    {od_swap_step an_swap_step : Option Addr} {sl_swap_step : Array (Option Value)} {oc_swap_step kV_swap_step dc_swap_step pm_swap_step cd_swap_step ct_swap_step : Value} {a_swap_step : Addr}
    {od_drop_step an_drop_step : Option Addr} {sl_drop_step : Array (Option Value)} {oc_drop_step kV_drop_step dc_drop_step pm_drop_step cd_drop_step ct_drop_step : Value} {a_drop_step : Addr}
    {od_same an_same : Option Addr} {sl_same : Array (Option Value)} {oc_same kV_same dc_same pm_same cd_same ct_same : Value} {a_same : Addr}
    {od_law_made an_law_made : Option Addr} {sl_law_made : Array (Option Value)} {oc_law_made kV_law_made dc_law_made pm_law_made cd_law_made ct_law_made : Value} {a_law_made : Addr}
    {od_law_parts an_law_parts : Option Addr} {sl_law_parts : Array (Option Value)} {oc_law_parts kV_law_parts dc_law_parts pm_law_parts cd_law_parts ct_law_parts : Value} {a_law_parts : Addr}
    {od_law_uses an_law_uses : Option Addr} {sl_law_uses : Array (Option Value)} {oc_law_uses kV_law_uses dc_law_uses pm_law_uses cd_law_uses ct_law_uses : Value} {a_law_uses : Addr}
    {od_law_with an_law_with : Option Addr} {sl_law_with : Array (Option Value)} {oc_law_with kV_law_with dc_law_with pm_law_with cd_law_with ct_law_with : Value} {a_law_with : Addr}
    {od_law_proc an_law_proc : Option Addr} {sl_law_proc : Array (Option Value)} {oc_law_proc kV_law_proc dc_law_proc pm_law_proc cd_law_proc ct_law_proc : Value} {a_law_proc : Addr}
    {od_law_touch an_law_touch : Option Addr} {sl_law_touch : Array (Option Value)} {oc_law_touch kV_law_touch dc_law_touch pm_law_touch cd_law_touch ct_law_touch : Value} {a_law_touch : Addr}
    {od_law_alike_value an_law_alike_value : Option Addr} {sl_law_alike_value : Array (Option Value)} {oc_law_alike_value kV_law_alike_value dc_law_alike_value pm_law_alike_value cd_law_alike_value ct_law_alike_value : Value} {a_law_alike_value : Addr}
    {od_law_alike_block an_law_alike_block : Option Addr} {sl_law_alike_block : Array (Option Value)} {oc_law_alike_block kV_law_alike_block dc_law_alike_block pm_law_alike_block cd_law_alike_block ct_law_alike_block : Value} {a_law_alike_block : Addr}
    {od_law_alike an_law_alike : Option Addr} {sl_law_alike : Array (Option Value)} {oc_law_alike kV_law_alike dc_law_alike pm_law_alike cd_law_alike ct_law_alike : Value} {a_law_alike : Addr}
    {od_law_sunken an_law_sunken : Option Addr} {sl_law_sunken : Array (Option Value)} {oc_law_sunken kV_law_sunken dc_law_sunken pm_law_sunken cd_law_sunken ct_law_sunken : Value} {a_law_sunken : Addr}
    {od_law_tried an_law_tried : Option Addr} {sl_law_tried : Array (Option Value)} {oc_law_tried kV_law_tried dc_law_tried pm_law_tried cd_law_tried ct_law_tried : Value} {a_law_tried : Addr}
    {od_law_swapped an_law_swapped : Option Addr} {sl_law_swapped : Array (Option Value)} {oc_law_swapped kV_law_swapped dc_law_swapped pm_law_swapped cd_law_swapped ct_law_swapped : Value} {a_law_swapped : Addr}
    {od_law_dropped an_law_dropped : Option Addr} {sl_law_dropped : Array (Option Value)} {oc_law_dropped kV_law_dropped dc_law_dropped pm_law_dropped cd_law_dropped ct_law_dropped : Value} {a_law_dropped : Addr}
    {od_law an_law : Option Addr} {sl_law : Array (Option Value)} {oc_law kV_law dc_law pm_law cd_law ct_law : Value} {a_law : Addr}
    {C_BadStep : Addr}
    {od_BadStep_init an_BadStep_init : Option Addr} {sl_BadStep_init : Array (Option Value)} {oc_BadStep_init kV_BadStep_init dc_BadStep_init pm_BadStep_init ct_BadStep_init : Value} {a_BadStep_init cda_BadStep_init cc_BadStep_init : Addr} {ccl_BadStep_init cl_BadStep_init : Value} {cdd_BadStep_init cld_BadStep_init : Option Addr} {ccs_BadStep_init csl_BadStep_init : Array (Option Value)} {vs_BadStep_init : Array Value} {tf_BadStep_init : PySem.Tok}
    {nm_BadStep_init q_BadStep_init : Str} {N_BadStep_init : Addr} {bs_BadStep_init bm_BadStep_init : List Value} {sn_BadStep_init : List Str} {sub_BadStep_init : List Value} {ab_BadStep_init : Bool} {col_BadStep_init : Option Bool} {dd_BadStep_init : Option Addr} {k0_BadStep_init k1_BadStep_init k2_BadStep_init k3_BadStep_init k5_BadStep_init : Option Value}
    {file : Str}
    {C_PlayError : Addr}
    {C_BadBound : Addr}
    {C_BadCall : Addr}
    {C_BadPlayer : Addr}
    {C_BadText : Addr}
    {C_TooLarge : Addr}
    {a_OPERATORS : Addr} {od_OPERATORS : Option Addr} {n_OPERATORS : Nat} {sl_OPERATORS : Array (Option Value)} {t0_OPERATORS t1_OPERATORS t2_OPERATORS t3_OPERATORS t4_OPERATORS t5_OPERATORS t6_OPERATORS : PySem.Tok}
    {a_LOOKS : Addr} {od_LOOKS : Option Addr} {n_LOOKS : Nat} {sl_LOOKS : Array (Option Value)} {t0_LOOKS t1_LOOKS : PySem.Tok}
    {a_BAD : Addr} {od_BAD : Option Addr} {n_BAD : Nat} {sl_BAD : Array (Option Value)} {t0_BAD t1_BAD : PySem.Tok}
    {a_RULES : Addr}
    {a_FORMS : Addr}
    {n_FORMS : Nat} {h0_FORMS : Int} {t0_FORMS : PySem.Tok} {v0_FORMS : Addr} {od0_FORMS : Option Addr} {n0_FORMS : Nat} {sl0_FORMS : Array (Option Value)} {h1_FORMS : Int} {t1_FORMS : PySem.Tok} {v1_FORMS : Addr} {od1_FORMS : Option Addr} {n1_FORMS : Nat} {sl1_FORMS : Array (Option Value)} {h2_FORMS : Int} {t2_FORMS : PySem.Tok} {v2_FORMS : Addr} {od2_FORMS : Option Addr} {n2_FORMS : Nat} {sl2_FORMS : Array (Option Value)} {h3_FORMS : Int} {t3_FORMS : PySem.Tok} {v3_FORMS : Addr} {od3_FORMS : Option Addr} {n3_FORMS : Nat} {sl3_FORMS : Array (Option Value)} {h4_FORMS : Int} {t4_FORMS : PySem.Tok} {v4_FORMS : Addr} {od4_FORMS : Option Addr} {n4_FORMS : Nat} {sl4_FORMS : Array (Option Value)} {h5_FORMS : Int} {t5_FORMS : PySem.Tok} {v5_FORMS : Addr} {od5_FORMS : Option Addr} {n5_FORMS : Nat} {sl5_FORMS : Array (Option Value)} {h6_FORMS : Int} {t6_FORMS : PySem.Tok} {v6_FORMS : Addr} {od6_FORMS : Option Addr} {n6_FORMS : Nat} {sl6_FORMS : Array (Option Value)}
    {t0_0_FORMS t0_1_FORMS : PySem.Tok}
    {t1_0_FORMS t1_1_FORMS : PySem.Tok}
    {t2_0_FORMS t2_1_FORMS : PySem.Tok}
    {t3_0_FORMS t3_1_FORMS t3_2_FORMS : PySem.Tok}
    {t4_0_FORMS t4_1_FORMS t4_2_FORMS : PySem.Tok}
    {t5_0_FORMS t5_1_FORMS t5_2_FORMS : PySem.Tok}
    (o_n : PySem.W.specialIn K (.builtin "object.__class__") "__get__" = some (some (.builtin "getset_descriptor.__get__")))
    (o_t : PySem.W.takesIn K (.builtin "object.__class__") = some true)
    (hC_Game : PySem.W.nsIn K mainGlobals "Game" = some (some (.ref C_Game)))
    (pg_Game : PySem.W.plainGet K C_Game Str.empty = true)
    (hd_Game : PySem.W.hasDictIn K C_Game = true)
    (po_Game : PySem.W.plainOver K C_Game = true)
    (sa_Game : PySem.W.findIn K (.ref C_Game) "__setattr__" = some (some (.builtin "object.__setattr__")))
    (mk_Game : PySem.W.makesIn K C_Game = true)
    (kc_Game : PySem.W.keepIn K (.ref C_Game) = true)
    (sf_Game : PySem.W.selfFirst K C_Game = true)
    (na_Game_variables : PySem.W.findIn K (.ref C_Game) "variables" = some none)
    (na_Game_tables : PySem.W.findIn K (.ref C_Game) "tables" = some none)
    (na_Game_lots : PySem.W.findIn K (.ref C_Game) "lots" = some none)
    (na_Game_procs : PySem.W.findIn K (.ref C_Game) "procs" = some none)
    (ia_Game : PySem.W.findIn K (.ref C_Game) "__class__" = some (some (.builtin "object.__class__")))
    (im_Game : PySem.W.mroIn K C_Game (.type "object") = some true)
    (ik_Game : PySem.W.kitOne K (.ref C_Game) (.ref C_Game) = some true)
    (h_law_cell : PySem.W.nsIn K mainGlobals "_law_cell" = some (some (.ref a_law_cell)))
    (l_law_cell : K.lookup a_law_cell = some ⟨oc_law_cell, od_law_cell, .func (PySem.W.fnOf "_law_cell" "_law_cell" (defArgs s_law_cell) (defBody s_law_cell) (defScope s_law_cell) .none kV_law_cell dc_law_cell pm_law_cell an_law_cell cd_law_cell ct_law_cell), sl_law_cell⟩)
    (c_law_cell : PySem.W.codeIn K cd_law_cell "_law_cell" = true)
    (k_law_cell : PySem.W.keepIn K (.ref a_law_cell) = true)
    (h_law_row : PySem.W.nsIn K mainGlobals "_law_row" = some (some (.ref a_law_row)))
    (l_law_row : K.lookup a_law_row = some ⟨oc_law_row, od_law_row, .func (PySem.W.fnOf "_law_row" "_law_row" (defArgs s_law_row) (defBody s_law_row) (defScope s_law_row) .none kV_law_row dc_law_row pm_law_row an_law_row cd_law_row ct_law_row), sl_law_row⟩)
    (c_law_row : PySem.W.codeIn K cd_law_row "_law_row" = true)
    (k_law_row : PySem.W.keepIn K (.ref a_law_row) = true)
    (h_law_side : PySem.W.nsIn K mainGlobals "_law_side" = some (some (.ref a_law_side)))
    (l_law_side : K.lookup a_law_side = some ⟨oc_law_side, od_law_side, .func (PySem.W.fnOf "_law_side" "_law_side" (defArgs s_law_side) (defBody s_law_side) (defScope s_law_side) .none kV_law_side dc_law_side pm_law_side an_law_side cd_law_side ct_law_side), sl_law_side⟩)
    (c_law_side : PySem.W.codeIn K cd_law_side "_law_side" = true)
    (k_law_side : PySem.W.keepIn K (.ref a_law_side) = true)
    (h_law_value : PySem.W.nsIn K mainGlobals "_law_value" = some (some (.ref a_law_value)))
    (l_law_value : K.lookup a_law_value = some ⟨oc_law_value, od_law_value, .func (PySem.W.fnOf "_law_value" "_law_value" (defArgs s_law_value) (defBody s_law_value) (defScope s_law_value) .none kV_law_value dc_law_value pm_law_value an_law_value cd_law_value ct_law_value), sl_law_value⟩)
    (c_law_value : PySem.W.codeIn K cd_law_value "_law_value" = true)
    (k_law_value : PySem.W.keepIn K (.ref a_law_value) = true)
    (h_law_plain : PySem.W.nsIn K mainGlobals "_law_plain" = some (some (.ref a_law_plain)))
    (l_law_plain : K.lookup a_law_plain = some ⟨oc_law_plain, od_law_plain, .func (PySem.W.fnOf "_law_plain" "_law_plain" (defArgs s_law_plain) (defBody s_law_plain) (defScope s_law_plain) .none kV_law_plain dc_law_plain pm_law_plain an_law_plain cd_law_plain ct_law_plain), sl_law_plain⟩)
    (c_law_plain : PySem.W.codeIn K cd_law_plain "_law_plain" = true)
    (k_law_plain : PySem.W.keepIn K (.ref a_law_plain) = true)
    (h_law_block : PySem.W.nsIn K mainGlobals "_law_block" = some (some (.ref a_law_block)))
    (l_law_block : K.lookup a_law_block = some ⟨oc_law_block, od_law_block, .func (PySem.W.fnOf "_law_block" "_law_block" (defArgs s_law_block) (defBody s_law_block) (defScope s_law_block) .none kV_law_block dc_law_block pm_law_block an_law_block cd_law_block ct_law_block), sl_law_block⟩)
    (c_law_block : PySem.W.codeIn K cd_law_block "_law_block" = true)
    (k_law_block : PySem.W.keepIn K (.ref a_law_block) = true)
    (h_law_game : PySem.W.nsIn K mainGlobals "_law_game" = some (some (.ref a_law_game)))
    (l_law_game : K.lookup a_law_game = some ⟨oc_law_game, od_law_game, .func (PySem.W.fnOf "_law_game" "_law_game" (defArgs s_law_game) (defBody s_law_game) (defScope s_law_game) .none kV_law_game dc_law_game pm_law_game an_law_game cd_law_game ct_law_game), sl_law_game⟩)
    (c_law_game : PySem.W.codeIn K cd_law_game "_law_game" = true)
    (k_law_game : PySem.W.keepIn K (.ref a_law_game) = true)
    (h_Game_init : PySem.W.findIn K (.ref C_Game) "__init__" = some (some (.ref a_Game_init)))
    (i_Game_init : PySem.W.isFn K (.ref a_Game_init) = true)
    (l_Game_init : K.lookup a_Game_init = some ⟨oc_Game_init, od_Game_init, .func (PySem.W.fnOf "__init__" "Game.__init__" (defArgs s_Game_init) (defBody s_Game_init) (defScope s_Game_init) .none kV_Game_init dc_Game_init pm_Game_init an_Game_init cd_Game_init ct_Game_init), sl_Game_init⟩)
    (c_Game_init : PySem.W.codeIn K cd_Game_init "Game.__init__" = true)
    (k_Game_init : PySem.W.keepIn K (.ref a_Game_init) = true)
    (h_Game_eq : PySem.W.findIn K (.ref C_Game) "__eq__" = some (some (.ref a_Game_eq)))
    (i_Game_eq : PySem.W.isFn K (.ref a_Game_eq) = true)
    (l_Game_eq : K.lookup a_Game_eq = some ⟨oc_Game_eq, od_Game_eq, .func (PySem.W.fnOf "__eq__" "Game.__eq__" (defArgs s_Game_eq) (defBody s_Game_eq) (defScope s_Game_eq) .none kV_Game_eq dc_Game_eq pm_Game_eq an_Game_eq cd_Game_eq ct_Game_eq), sl_Game_eq⟩)
    (c_Game_eq : PySem.W.codeIn K cd_Game_eq "Game.__eq__" = true)
    (k_Game_eq : PySem.W.keepIn K (.ref a_Game_eq) = true)
    (h_Game_proc : PySem.W.findIn K (.ref C_Game) "proc" = some (some (.ref a_Game_proc)))
    (i_Game_proc : PySem.W.isFn K (.ref a_Game_proc) = true)
    (l_Game_proc : K.lookup a_Game_proc = some ⟨oc_Game_proc, od_Game_proc, .func (PySem.W.fnOf "proc" "Game.proc" (defArgs s_Game_proc) (defBody s_Game_proc) (defScope s_Game_proc) .none kV_Game_proc dc_Game_proc pm_Game_proc an_Game_proc cd_Game_proc ct_Game_proc), sl_Game_proc⟩)
    (c_Game_proc : PySem.W.codeIn K cd_Game_proc "Game.proc" = true)
    (k_Game_proc : PySem.W.keepIn K (.ref a_Game_proc) = true)
    (h_require : PySem.W.nsIn K mainGlobals "require" = some (some (.ref a_require)))
    (l_require : K.lookup a_require = some ⟨oc_require, od_require, .func (PySem.W.fnOf "require" "require" (defArgs s_require) (defBody s_require) (defScope s_require) .none kV_require dc_require pm_require an_require cd_require ct_require), sl_require⟩)
    (c_require : PySem.W.codeIn K cd_require "require" = true)
    (k_require : PySem.W.keepIn K (.ref a_require) = true)
    (h_proc_of : PySem.W.nsIn K mainGlobals "proc_of" = some (some (.ref a_proc_of)))
    (l_proc_of : K.lookup a_proc_of = some ⟨oc_proc_of, od_proc_of, .func (PySem.W.fnOf "proc_of" "proc_of" (defArgs s_proc_of) (defBody s_proc_of) (defScope s_proc_of) .none kV_proc_of dc_proc_of pm_proc_of an_proc_of cd_proc_of ct_proc_of), sl_proc_of⟩)
    (c_proc_of : PySem.W.codeIn K cd_proc_of "proc_of" = true)
    (k_proc_of : PySem.W.keepIn K (.ref a_proc_of) = true)
    (h_statement_of : PySem.W.nsIn K mainGlobals "statement_of" = some (some (.ref a_statement_of)))
    (l_statement_of : K.lookup a_statement_of = some ⟨oc_statement_of, od_statement_of, .func (PySem.W.fnOf "statement_of" "statement_of" (defArgs s_statement_of) (defBody s_statement_of) (defScope s_statement_of) .none kV_statement_of dc_statement_of pm_statement_of an_statement_of cd_statement_of ct_statement_of), sl_statement_of⟩)
    (c_statement_of : PySem.W.codeIn K cd_statement_of "statement_of" = true)
    (k_statement_of : PySem.W.keepIn K (.ref a_statement_of) = true)
    (h_pair_of : PySem.W.nsIn K mainGlobals "pair_of" = some (some (.ref a_pair_of)))
    (l_pair_of : K.lookup a_pair_of = some ⟨oc_pair_of, od_pair_of, .func (PySem.W.fnOf "pair_of" "pair_of" (defArgs s_pair_of) (defBody s_pair_of) (defScope s_pair_of) .none kV_pair_of dc_pair_of pm_pair_of an_pair_of cd_pair_of ct_pair_of), sl_pair_of⟩)
    (c_pair_of : PySem.W.codeIn K cd_pair_of "pair_of" = true)
    (k_pair_of : PySem.W.keepIn K (.ref a_pair_of) = true)
    (h_with_proc : PySem.W.nsIn K mainGlobals "with_proc" = some (some (.ref a_with_proc)))
    (l_with_proc : K.lookup a_with_proc = some ⟨oc_with_proc, od_with_proc, .func (PySem.W.fnOf "with_proc" "with_proc" (defArgs s_with_proc) (defBody s_with_proc) (defScope s_with_proc) .none kV_with_proc dc_with_proc pm_with_proc an_with_proc cd_with_proc ct_with_proc), sl_with_proc⟩)
    (c_with_proc : PySem.W.codeIn K cd_with_proc "with_proc" = true)
    (k_with_proc : PySem.W.keepIn K (.ref a_with_proc) = true)
    (h_replaced : PySem.W.nsIn K mainGlobals "replaced" = some (some (.ref a_replaced)))
    (l_replaced : K.lookup a_replaced = some ⟨oc_replaced, od_replaced, .func (PySem.W.fnOf "replaced" "replaced" (defArgs s_replaced) (defBody s_replaced) (defScope s_replaced) .none kV_replaced dc_replaced pm_replaced an_replaced cd_replaced ct_replaced), sl_replaced⟩)
    (c_replaced : PySem.W.codeIn K cd_replaced "replaced" = true)
    (k_replaced : PySem.W.keepIn K (.ref a_replaced) = true)
    (h_every_expression : PySem.W.nsIn K mainGlobals "every_expression" = some (some (.ref a_every_expression)))
    (l_every_expression : K.lookup a_every_expression = some ⟨oc_every_expression, od_every_expression, .func (PySem.W.fnOf "every_expression" "every_expression" (defArgs s_every_expression) (defBody s_every_expression) (defScope s_every_expression) .none kV_every_expression dc_every_expression pm_every_expression an_every_expression cd_every_expression ct_every_expression), sl_every_expression⟩)
    (c_every_expression : PySem.W.codeIn K cd_every_expression "every_expression" = true)
    (k_every_expression : PySem.W.keepIn K (.ref a_every_expression) = true)
    (h_expression_reads : PySem.W.nsIn K mainGlobals "expression_reads" = some (some (.ref a_expression_reads)))
    (l_expression_reads : K.lookup a_expression_reads = some ⟨oc_expression_reads, od_expression_reads, .func (PySem.W.fnOf "expression_reads" "expression_reads" (defArgs s_expression_reads) (defBody s_expression_reads) (defScope s_expression_reads) .none kV_expression_reads dc_expression_reads pm_expression_reads an_expression_reads cd_expression_reads ct_expression_reads), sl_expression_reads⟩)
    (c_expression_reads : PySem.W.codeIn K cd_expression_reads "expression_reads" = true)
    (k_expression_reads : PySem.W.keepIn K (.ref a_expression_reads) = true)
    (h_reads_local : PySem.W.nsIn K mainGlobals "reads_local" = some (some (.ref a_reads_local)))
    (l_reads_local : K.lookup a_reads_local = some ⟨oc_reads_local, od_reads_local, .func (PySem.W.fnOf "reads_local" "reads_local" (defArgs s_reads_local) (defBody s_reads_local) (defScope s_reads_local) .none kV_reads_local dc_reads_local pm_reads_local an_reads_local cd_reads_local ct_reads_local), sl_reads_local⟩)
    (c_reads_local : PySem.W.codeIn K cd_reads_local "reads_local" = true)
    (k_reads_local : PySem.W.keepIn K (.ref a_reads_local) = true)
    (h_inner_blocks : PySem.W.nsIn K mainGlobals "inner_blocks" = some (some (.ref a_inner_blocks)))
    (l_inner_blocks : K.lookup a_inner_blocks = some ⟨oc_inner_blocks, od_inner_blocks, .func (PySem.W.fnOf "inner_blocks" "inner_blocks" (defArgs s_inner_blocks) (defBody s_inner_blocks) (defScope s_inner_blocks) .none kV_inner_blocks dc_inner_blocks pm_inner_blocks an_inner_blocks cd_inner_blocks ct_inner_blocks), sl_inner_blocks⟩)
    (c_inner_blocks : PySem.W.codeIn K cd_inner_blocks "inner_blocks" = true)
    (k_inner_blocks : PySem.W.keepIn K (.ref a_inner_blocks) = true)
    (h_every_statement : PySem.W.nsIn K mainGlobals "every_statement" = some (some (.ref a_every_statement)))
    (l_every_statement : K.lookup a_every_statement = some ⟨oc_every_statement, od_every_statement, .func (PySem.W.fnOf "every_statement" "every_statement" (defArgs s_every_statement) (defBody s_every_statement) (defScope s_every_statement) .none kV_every_statement dc_every_statement pm_every_statement an_every_statement cd_every_statement ct_every_statement), sl_every_statement⟩)
    (c_every_statement : PySem.W.codeIn K cd_every_statement "every_statement" = true)
    (k_every_statement : PySem.W.keepIn K (.ref a_every_statement) = true)
    (h_own_expressions : PySem.W.nsIn K mainGlobals "own_expressions" = some (some (.ref a_own_expressions)))
    (l_own_expressions : K.lookup a_own_expressions = some ⟨oc_own_expressions, od_own_expressions, .func (PySem.W.fnOf "own_expressions" "own_expressions" (defArgs s_own_expressions) (defBody s_own_expressions) (defScope s_own_expressions) .none kV_own_expressions dc_own_expressions pm_own_expressions an_own_expressions cd_own_expressions ct_own_expressions), sl_own_expressions⟩)
    (c_own_expressions : PySem.W.codeIn K cd_own_expressions "own_expressions" = true)
    (k_own_expressions : PySem.W.keepIn K (.ref a_own_expressions) = true)
    (h_block_reads : PySem.W.nsIn K mainGlobals "block_reads" = some (some (.ref a_block_reads)))
    (l_block_reads : K.lookup a_block_reads = some ⟨oc_block_reads, od_block_reads, .func (PySem.W.fnOf "block_reads" "block_reads" (defArgs s_block_reads) (defBody s_block_reads) (defScope s_block_reads) .none kV_block_reads dc_block_reads pm_block_reads an_block_reads cd_block_reads ct_block_reads), sl_block_reads⟩)
    (c_block_reads : PySem.W.codeIn K cd_block_reads "block_reads" = true)
    (k_block_reads : PySem.W.keepIn K (.ref a_block_reads) = true)
    (h_proc_reads : PySem.W.nsIn K mainGlobals "proc_reads" = some (some (.ref a_proc_reads)))
    (l_proc_reads : K.lookup a_proc_reads = some ⟨oc_proc_reads, od_proc_reads, .func (PySem.W.fnOf "proc_reads" "proc_reads" (defArgs s_proc_reads) (defBody s_proc_reads) (defScope s_proc_reads) .none kV_proc_reads dc_proc_reads pm_proc_reads an_proc_reads cd_proc_reads ct_proc_reads), sl_proc_reads⟩)
    (c_proc_reads : PySem.W.codeIn K cd_proc_reads "proc_reads" = true)
    (k_proc_reads : PySem.W.keepIn K (.ref a_proc_reads) = true)
    (h_own_writes : PySem.W.nsIn K mainGlobals "own_writes" = some (some (.ref a_own_writes)))
    (l_own_writes : K.lookup a_own_writes = some ⟨oc_own_writes, od_own_writes, .func (PySem.W.fnOf "own_writes" "own_writes" (defArgs s_own_writes) (defBody s_own_writes) (defScope s_own_writes) .none kV_own_writes dc_own_writes pm_own_writes an_own_writes cd_own_writes ct_own_writes), sl_own_writes⟩)
    (c_own_writes : PySem.W.codeIn K cd_own_writes "own_writes" = true)
    (k_own_writes : PySem.W.keepIn K (.ref a_own_writes) = true)
    (h_statement_reads : PySem.W.nsIn K mainGlobals "statement_reads" = some (some (.ref a_statement_reads)))
    (l_statement_reads : K.lookup a_statement_reads = some ⟨oc_statement_reads, od_statement_reads, .func (PySem.W.fnOf "statement_reads" "statement_reads" (defArgs s_statement_reads) (defBody s_statement_reads) (defScope s_statement_reads) .none kV_statement_reads dc_statement_reads pm_statement_reads an_statement_reads cd_statement_reads ct_statement_reads), sl_statement_reads⟩)
    (c_statement_reads : PySem.W.codeIn K cd_statement_reads "statement_reads" = true)
    (k_statement_reads : PySem.W.keepIn K (.ref a_statement_reads) = true)
    (h_statement_writes : PySem.W.nsIn K mainGlobals "statement_writes" = some (some (.ref a_statement_writes)))
    (l_statement_writes : K.lookup a_statement_writes = some ⟨oc_statement_writes, od_statement_writes, .func (PySem.W.fnOf "statement_writes" "statement_writes" (defArgs s_statement_writes) (defBody s_statement_writes) (defScope s_statement_writes) .none kV_statement_writes dc_statement_writes pm_statement_writes an_statement_writes cd_statement_writes ct_statement_writes), sl_statement_writes⟩)
    (c_statement_writes : PySem.W.codeIn K cd_statement_writes "statement_writes" = true)
    (k_statement_writes : PySem.W.keepIn K (.ref a_statement_writes) = true)
    (h_disturbs : PySem.W.nsIn K mainGlobals "disturbs" = some (some (.ref a_disturbs)))
    (l_disturbs : K.lookup a_disturbs = some ⟨oc_disturbs, od_disturbs, .func (PySem.W.fnOf "disturbs" "disturbs" (defArgs s_disturbs) (defBody s_disturbs) (defScope s_disturbs) .none kV_disturbs dc_disturbs pm_disturbs an_disturbs cd_disturbs ct_disturbs), sl_disturbs⟩)
    (c_disturbs : PySem.W.codeIn K cd_disturbs "disturbs" = true)
    (k_disturbs : PySem.W.keepIn K (.ref a_disturbs) = true)
    (h_swap_step : PySem.W.nsIn K mainGlobals "swap_step" = some (some (.ref a_swap_step)))
    (l_swap_step : K.lookup a_swap_step = some ⟨oc_swap_step, od_swap_step, .func (PySem.W.fnOf "swap_step" "swap_step" (defArgs s_swap_step) (defBody s_swap_step) (defScope s_swap_step) .none kV_swap_step dc_swap_step pm_swap_step an_swap_step cd_swap_step ct_swap_step), sl_swap_step⟩)
    (c_swap_step : PySem.W.codeIn K cd_swap_step "swap_step" = true)
    (k_swap_step : PySem.W.keepIn K (.ref a_swap_step) = true)
    (h_drop_step : PySem.W.nsIn K mainGlobals "drop_step" = some (some (.ref a_drop_step)))
    (l_drop_step : K.lookup a_drop_step = some ⟨oc_drop_step, od_drop_step, .func (PySem.W.fnOf "drop_step" "drop_step" (defArgs s_drop_step) (defBody s_drop_step) (defScope s_drop_step) .none kV_drop_step dc_drop_step pm_drop_step an_drop_step cd_drop_step ct_drop_step), sl_drop_step⟩)
    (c_drop_step : PySem.W.codeIn K cd_drop_step "drop_step" = true)
    (k_drop_step : PySem.W.keepIn K (.ref a_drop_step) = true)
    (h_same : PySem.W.nsIn K mainGlobals "same" = some (some (.ref a_same)))
    (l_same : K.lookup a_same = some ⟨oc_same, od_same, .func (PySem.W.fnOf "same" "same" (defArgs s_same) (defBody s_same) (defScope s_same) .none kV_same dc_same pm_same an_same cd_same ct_same), sl_same⟩)
    (c_same : PySem.W.codeIn K cd_same "same" = true)
    (k_same : PySem.W.keepIn K (.ref a_same) = true)
    (h_law_made : PySem.W.nsIn K mainGlobals "_law_made" = some (some (.ref a_law_made)))
    (l_law_made : K.lookup a_law_made = some ⟨oc_law_made, od_law_made, .func (PySem.W.fnOf "_law_made" "_law_made" (defArgs s_law_made) (defBody s_law_made) (defScope s_law_made) .none kV_law_made dc_law_made pm_law_made an_law_made cd_law_made ct_law_made), sl_law_made⟩)
    (c_law_made : PySem.W.codeIn K cd_law_made "_law_made" = true)
    (k_law_made : PySem.W.keepIn K (.ref a_law_made) = true)
    (h_law_parts : PySem.W.nsIn K mainGlobals "_law_parts" = some (some (.ref a_law_parts)))
    (l_law_parts : K.lookup a_law_parts = some ⟨oc_law_parts, od_law_parts, .func (PySem.W.fnOf "_law_parts" "_law_parts" (defArgs s_law_parts) (defBody s_law_parts) (defScope s_law_parts) .none kV_law_parts dc_law_parts pm_law_parts an_law_parts cd_law_parts ct_law_parts), sl_law_parts⟩)
    (c_law_parts : PySem.W.codeIn K cd_law_parts "_law_parts" = true)
    (k_law_parts : PySem.W.keepIn K (.ref a_law_parts) = true)
    (h_law_uses : PySem.W.nsIn K mainGlobals "_law_uses" = some (some (.ref a_law_uses)))
    (l_law_uses : K.lookup a_law_uses = some ⟨oc_law_uses, od_law_uses, .func (PySem.W.fnOf "_law_uses" "_law_uses" (defArgs s_law_uses) (defBody s_law_uses) (defScope s_law_uses) .none kV_law_uses dc_law_uses pm_law_uses an_law_uses cd_law_uses ct_law_uses), sl_law_uses⟩)
    (c_law_uses : PySem.W.codeIn K cd_law_uses "_law_uses" = true)
    (k_law_uses : PySem.W.keepIn K (.ref a_law_uses) = true)
    (h_law_with : PySem.W.nsIn K mainGlobals "_law_with" = some (some (.ref a_law_with)))
    (l_law_with : K.lookup a_law_with = some ⟨oc_law_with, od_law_with, .func (PySem.W.fnOf "_law_with" "_law_with" (defArgs s_law_with) (defBody s_law_with) (defScope s_law_with) .none kV_law_with dc_law_with pm_law_with an_law_with cd_law_with ct_law_with), sl_law_with⟩)
    (c_law_with : PySem.W.codeIn K cd_law_with "_law_with" = true)
    (k_law_with : PySem.W.keepIn K (.ref a_law_with) = true)
    (h_law_proc : PySem.W.nsIn K mainGlobals "_law_proc" = some (some (.ref a_law_proc)))
    (l_law_proc : K.lookup a_law_proc = some ⟨oc_law_proc, od_law_proc, .func (PySem.W.fnOf "_law_proc" "_law_proc" (defArgs s_law_proc) (defBody s_law_proc) (defScope s_law_proc) .none kV_law_proc dc_law_proc pm_law_proc an_law_proc cd_law_proc ct_law_proc), sl_law_proc⟩)
    (c_law_proc : PySem.W.codeIn K cd_law_proc "_law_proc" = true)
    (k_law_proc : PySem.W.keepIn K (.ref a_law_proc) = true)
    (h_law_touch : PySem.W.nsIn K mainGlobals "_law_touch" = some (some (.ref a_law_touch)))
    (l_law_touch : K.lookup a_law_touch = some ⟨oc_law_touch, od_law_touch, .func (PySem.W.fnOf "_law_touch" "_law_touch" (defArgs s_law_touch) (defBody s_law_touch) (defScope s_law_touch) .none kV_law_touch dc_law_touch pm_law_touch an_law_touch cd_law_touch ct_law_touch), sl_law_touch⟩)
    (c_law_touch : PySem.W.codeIn K cd_law_touch "_law_touch" = true)
    (k_law_touch : PySem.W.keepIn K (.ref a_law_touch) = true)
    (h_law_alike_value : PySem.W.nsIn K mainGlobals "_law_alike_value" = some (some (.ref a_law_alike_value)))
    (l_law_alike_value : K.lookup a_law_alike_value = some ⟨oc_law_alike_value, od_law_alike_value, .func (PySem.W.fnOf "_law_alike_value" "_law_alike_value" (defArgs s_law_alike_value) (defBody s_law_alike_value) (defScope s_law_alike_value) .none kV_law_alike_value dc_law_alike_value pm_law_alike_value an_law_alike_value cd_law_alike_value ct_law_alike_value), sl_law_alike_value⟩)
    (c_law_alike_value : PySem.W.codeIn K cd_law_alike_value "_law_alike_value" = true)
    (k_law_alike_value : PySem.W.keepIn K (.ref a_law_alike_value) = true)
    (h_law_alike_block : PySem.W.nsIn K mainGlobals "_law_alike_block" = some (some (.ref a_law_alike_block)))
    (l_law_alike_block : K.lookup a_law_alike_block = some ⟨oc_law_alike_block, od_law_alike_block, .func (PySem.W.fnOf "_law_alike_block" "_law_alike_block" (defArgs s_law_alike_block) (defBody s_law_alike_block) (defScope s_law_alike_block) .none kV_law_alike_block dc_law_alike_block pm_law_alike_block an_law_alike_block cd_law_alike_block ct_law_alike_block), sl_law_alike_block⟩)
    (c_law_alike_block : PySem.W.codeIn K cd_law_alike_block "_law_alike_block" = true)
    (k_law_alike_block : PySem.W.keepIn K (.ref a_law_alike_block) = true)
    (h_law_alike : PySem.W.nsIn K mainGlobals "_law_alike" = some (some (.ref a_law_alike)))
    (l_law_alike : K.lookup a_law_alike = some ⟨oc_law_alike, od_law_alike, .func (PySem.W.fnOf "_law_alike" "_law_alike" (defArgs s_law_alike) (defBody s_law_alike) (defScope s_law_alike) .none kV_law_alike dc_law_alike pm_law_alike an_law_alike cd_law_alike ct_law_alike), sl_law_alike⟩)
    (c_law_alike : PySem.W.codeIn K cd_law_alike "_law_alike" = true)
    (k_law_alike : PySem.W.keepIn K (.ref a_law_alike) = true)
    (h_law_sunken : PySem.W.nsIn K mainGlobals "_law_sunken" = some (some (.ref a_law_sunken)))
    (l_law_sunken : K.lookup a_law_sunken = some ⟨oc_law_sunken, od_law_sunken, .func (PySem.W.fnOf "_law_sunken" "_law_sunken" (defArgs s_law_sunken) (defBody s_law_sunken) (defScope s_law_sunken) .none kV_law_sunken dc_law_sunken pm_law_sunken an_law_sunken cd_law_sunken ct_law_sunken), sl_law_sunken⟩)
    (c_law_sunken : PySem.W.codeIn K cd_law_sunken "_law_sunken" = true)
    (k_law_sunken : PySem.W.keepIn K (.ref a_law_sunken) = true)
    (h_law_tried : PySem.W.nsIn K mainGlobals "_law_tried" = some (some (.ref a_law_tried)))
    (l_law_tried : K.lookup a_law_tried = some ⟨oc_law_tried, od_law_tried, .func (PySem.W.fnOf "_law_tried" "_law_tried" (defArgs s_law_tried) (defBody s_law_tried) (defScope s_law_tried) .none kV_law_tried dc_law_tried pm_law_tried an_law_tried cd_law_tried ct_law_tried), sl_law_tried⟩)
    (c_law_tried : PySem.W.codeIn K cd_law_tried "_law_tried" = true)
    (k_law_tried : PySem.W.keepIn K (.ref a_law_tried) = true)
    (h_law_swapped : PySem.W.nsIn K mainGlobals "_law_swapped" = some (some (.ref a_law_swapped)))
    (l_law_swapped : K.lookup a_law_swapped = some ⟨oc_law_swapped, od_law_swapped, .func (PySem.W.fnOf "_law_swapped" "_law_swapped" (defArgs s_law_swapped) (defBody s_law_swapped) (defScope s_law_swapped) .none kV_law_swapped dc_law_swapped pm_law_swapped an_law_swapped cd_law_swapped ct_law_swapped), sl_law_swapped⟩)
    (c_law_swapped : PySem.W.codeIn K cd_law_swapped "_law_swapped" = true)
    (k_law_swapped : PySem.W.keepIn K (.ref a_law_swapped) = true)
    (h_law_dropped : PySem.W.nsIn K mainGlobals "_law_dropped" = some (some (.ref a_law_dropped)))
    (l_law_dropped : K.lookup a_law_dropped = some ⟨oc_law_dropped, od_law_dropped, .func (PySem.W.fnOf "_law_dropped" "_law_dropped" (defArgs s_law_dropped) (defBody s_law_dropped) (defScope s_law_dropped) .none kV_law_dropped dc_law_dropped pm_law_dropped an_law_dropped cd_law_dropped ct_law_dropped), sl_law_dropped⟩)
    (c_law_dropped : PySem.W.codeIn K cd_law_dropped "_law_dropped" = true)
    (k_law_dropped : PySem.W.keepIn K (.ref a_law_dropped) = true)
    (h_law : PySem.W.nsIn K mainGlobals "law" = some (some (.ref a_law)))
    (l_law : K.lookup a_law = some ⟨oc_law, od_law, .func (PySem.W.fnOf "law" "law" (defArgs s_law) (defBody s_law) (defScope s_law) .none kV_law dc_law pm_law an_law cd_law ct_law), sl_law⟩)
    (c_law : PySem.W.codeIn K cd_law "law" = true)
    (k_law : PySem.W.keepIn K (.ref a_law) = true)
    (hC_BadStep : PySem.W.nsIn K mainGlobals "BadStep" = some (some (.ref C_BadStep)))
    (kc_BadStep : PySem.W.keepIn K (.ref C_BadStep) = true)
    (xb_BadStep : PySem.W.subIn K (.ref C_BadStep) (.type "BaseException") = some true)
    (xt_BadStep : PySem.W.typeIn K (.ref C_BadStep) = some (.type "type"))
    (xd_BadStep : PySem.W.hasDictIn K C_BadStep = true)
    (any_ : PySem.W.nsIn K cStatics "thirdparty.any" = some none)
    (zn_super : PySem.W.nsIn K mainGlobals "super" = some none)
    (hi_BadStep_init : PySem.W.findIn K (.ref C_BadStep) "__init__" = some (some (.ref a_BadStep_init)))
    (ti_BadStep_init : PySem.W.typeIn K (.ref a_BadStep_init) = some (.type "function"))
    (li_BadStep_init : K.lookup a_BadStep_init = some ⟨oc_BadStep_init, od_BadStep_init, .func (PySem.W.ksFn "__init__" "BadStep.__init__" (defArgs s_BadStep_init) (defBody s_BadStep_init) (defScope s_BadStep_init) .none kV_BadStep_init dc_BadStep_init pm_BadStep_init an_BadStep_init (.ref cda_BadStep_init) ct_BadStep_init cc_BadStep_init), sl_BadStep_init⟩)
    (ci_BadStep_init : PySem.W.codeIn K (.ref cda_BadStep_init) "BadStep.__init__" = true)
    (di_BadStep_init : K.lookup cda_BadStep_init = some ⟨ccl_BadStep_init, cdd_BadStep_init, .fields vs_BadStep_init, ccs_BadStep_init⟩)
    (vi_BadStep_init : vs_BadStep_init[2]? = some (.str file tf_BadStep_init))
    (xi_BadStep_init : K.lookup cc_BadStep_init = some ⟨cl_BadStep_init, cld_BadStep_init, .cell (some (.ref C_BadStep)), csl_BadStep_init⟩)
    (si_BadStep_init : PySem.W.ks_superIn K C_BadStep C_BadStep "__init__" = some (some (.builtin "ValueError.__init__")))
    (ui_BadStep_init : PySem.W.subIn K (.ref C_BadStep) (.type "ValueError") = some true)
    (mi_BadStep_init : PySem.W.mroIn K C_BadStep (.ref C_BadStep) = some true)
    (lc_BadStep_init : K.lookup C_BadStep = some (excClassObj nm_BadStep_init q_BadStep_init C_BadStep N_BadStep_init bs_BadStep_init bm_BadStep_init true sn_BadStep_init sub_BadStep_init ab_BadStep_init col_BadStep_init dd_BadStep_init k0_BadStep_init k1_BadStep_init k2_BadStep_init k3_BadStep_init k5_BadStep_init "ValueError.__new__"))
    (rm_BadStep_init : PySem.HandSPX.refsVE bm_BadStep_init = true)
    (sa_BadStep_init : PySem.W.findIn K (.ref C_BadStep) "__setattr__" = some (some (.builtin "object.__setattr__")))
    (no_BadStep_init : PySem.W.findIn K (.ref C_BadStep) "rule" = some none)
    (hC_PlayError : PySem.W.nsIn K mainGlobals "PlayError" = some (some (.ref C_PlayError)))
    (kc_PlayError : PySem.W.keepIn K (.ref C_PlayError) = true)
    (xb_PlayError : PySem.W.subIn K (.ref C_PlayError) (.type "BaseException") = some true)
    (xt_PlayError : PySem.W.typeIn K (.ref C_PlayError) = some (.type "type"))
    (xd_PlayError : PySem.W.hasDictIn K C_PlayError = true)
    (hC_BadBound : PySem.W.nsIn K mainGlobals "BadBound" = some (some (.ref C_BadBound)))
    (hC_BadCall : PySem.W.nsIn K mainGlobals "BadCall" = some (some (.ref C_BadCall)))
    (hC_BadPlayer : PySem.W.nsIn K mainGlobals "BadPlayer" = some (some (.ref C_BadPlayer)))
    (hC_BadText : PySem.W.nsIn K mainGlobals "BadText" = some (some (.ref C_BadText)))
    (hC_TooLarge : PySem.W.nsIn K mainGlobals "TooLarge" = some (some (.ref C_TooLarge)))
    (eg_BadStep : PySem.W.findIn K (.ref C_BadStep) "__getattribute__" = some (some (.builtin "BaseException.__getattribute__")))
    (ek_BadStep : PySem.W.findIn K (.ref C_BadStep) "__getattr__" = some none)
    (ea_BadStep : PySem.W.findIn K (.ref C_BadStep) "__class__" = some (some (.builtin "object.__class__")))
    (em_BadStep : PySem.W.mroIn K C_BadStep (.type "object") = some true)
    (hg_OPERATORS : PySem.W.nsIn K mainGlobals "OPERATORS" = some (some (.ref a_OPERATORS)))
    (lq_OPERATORS : K.lookup a_OPERATORS = some ⟨.type "tuple", od_OPERATORS, .seq #[.str "+" t0_OPERATORS, .str "-" t1_OPERATORS, .str "*" t2_OPERATORS, .str "/" t3_OPERATORS, .str "mod" t4_OPERATORS, .str "<" t5_OPERATORS, .str "=" t6_OPERATORS] n_OPERATORS, sl_OPERATORS⟩)
    (hg_LOOKS : PySem.W.nsIn K mainGlobals "LOOKS" = some (some (.ref a_LOOKS)))
    (lq_LOOKS : K.lookup a_LOOKS = some ⟨.type "tuple", od_LOOKS, .seq #[.str "has" t0_LOOKS, .str "cell" t1_LOOKS] n_LOOKS, sl_LOOKS⟩)
    (hg_BAD : PySem.W.nsIn K mainGlobals "BAD" = some (some (.ref a_BAD)))
    (lq_BAD : K.lookup a_BAD = some ⟨.type "tuple", od_BAD, .seq #[.str "bad" t0_BAD, .str "" t1_BAD] n_BAD, sl_BAD⟩)
    (hg_RULES : PySem.W.nsIn K mainGlobals "RULES" = some (some (.ref a_RULES)))
    (kd_RULES : ∃ es n, L2.KDict K w a_RULES es n)
    (ns_RULES_0 : PySem.W.nsIn K a_RULES "swap" = some (some (.ref a_swap_step)))
    (ns_RULES_1 : PySem.W.nsIn K a_RULES "drop" = some (some (.ref a_drop_step)))
    (zn_len : PySem.W.nsIn K mainGlobals "len" = some none)
    (zn_range : PySem.W.nsIn K mainGlobals "range" = some none)
    (zn_int : PySem.W.nsIn K mainGlobals "int" = some none)
    (zn_tuple : PySem.W.nsIn K mainGlobals "tuple" = some none)
    (zn_list : PySem.W.nsIn K mainGlobals "list" = some none)
    (zn_isinstance : PySem.W.nsIn K mainGlobals "isinstance" = some none)
    (zn_abs : PySem.W.nsIn K mainGlobals "abs" = some none)
    (zn_max : PySem.W.nsIn K mainGlobals "max" = some none)
    (zn_zip : PySem.W.nsIn K mainGlobals "zip" = some none)
    (zn_any : PySem.W.nsIn K mainGlobals "any" = some none)
    (zn_set : PySem.W.nsIn K mainGlobals "set" = some none)
    (xga_BadStep : PySem.W.findIn K (.ref C_BadStep) "__getattribute__" = some (some (.builtin "BaseException.__getattribute__")))
    (xgg_BadStep : PySem.W.findIn K (.ref C_BadStep) "__getattr__" = some none)
    (sub_sp : PySem.W.subIn K (.ref C_BadStep) (.ref C_PlayError) = some true)
    (ki_s : PySem.W.kitOne K (.ref C_BadStep) (.ref C_BadStep) = some true)
    (ki_e : PySem.W.kitAny K (.ref C_BadStep) [.ref C_BadBound, .ref C_BadCall, .ref C_BadPlayer, .ref C_BadText, .ref C_TooLarge] = some false)
    (hg_FORMS : PySem.W.nsIn K mainGlobals "FORMS" = some (some (.ref a_FORMS)))
    (ld_FORMS : K.lookup a_FORMS = some ⟨.type "dict", none, .dict #[⟨h0_FORMS, .str "set" t0_FORMS, .ref v0_FORMS⟩, ⟨h1_FORMS, .str "let" t1_FORMS, .ref v1_FORMS⟩, ⟨h2_FORMS, .str "draw" t2_FORMS, .ref v2_FORMS⟩, ⟨h3_FORMS, .str "put" t3_FORMS, .ref v3_FORMS⟩, ⟨h4_FORMS, .str "lot" t4_FORMS, .ref v4_FORMS⟩, ⟨h5_FORMS, .str "ask" t5_FORMS, .ref v5_FORMS⟩, ⟨h6_FORMS, .str "bad" t6_FORMS, .ref v6_FORMS⟩] n_FORMS, #[]⟩)
    (rm_FORMS : (a_FORMS == sysModules) = false)
    (vi_FORMS0 : h0_FORMS = PyData.keyHash w.params "set")
    (ns_FORMS0 : PySem.W.nsIn K a_FORMS "set" = some (some (.ref v0_FORMS)))
    (lv_FORMS0 : K.lookup v0_FORMS = some ⟨.type "tuple", od0_FORMS, .seq #[.str "variable" t0_0_FORMS, .str "expression" t0_1_FORMS] n0_FORMS, sl0_FORMS⟩)
    (vi_FORMS1 : h1_FORMS = PyData.keyHash w.params "let")
    (ns_FORMS1 : PySem.W.nsIn K a_FORMS "let" = some (some (.ref v1_FORMS)))
    (lv_FORMS1 : K.lookup v1_FORMS = some ⟨.type "tuple", od1_FORMS, .seq #[.str "local" t1_0_FORMS, .str "expression" t1_1_FORMS] n1_FORMS, sl1_FORMS⟩)
    (vi_FORMS2 : h2_FORMS = PyData.keyHash w.params "draw")
    (ns_FORMS2 : PySem.W.nsIn K a_FORMS "draw" = some (some (.ref v2_FORMS)))
    (lv_FORMS2 : K.lookup v2_FORMS = some ⟨.type "tuple", od2_FORMS, .seq #[.str "local" t2_0_FORMS, .str "number" t2_1_FORMS] n2_FORMS, sl2_FORMS⟩)
    (vi_FORMS3 : h3_FORMS = PyData.keyHash w.params "put")
    (ns_FORMS3 : PySem.W.nsIn K a_FORMS "put" = some (some (.ref v3_FORMS)))
    (lv_FORMS3 : K.lookup v3_FORMS = some ⟨.type "tuple", od3_FORMS, .seq #[.str "table" t3_0_FORMS, .str "expression" t3_1_FORMS, .str "expression" t3_2_FORMS] n3_FORMS, sl3_FORMS⟩)
    (vi_FORMS4 : h4_FORMS = PyData.keyHash w.params "lot")
    (ns_FORMS4 : PySem.W.nsIn K a_FORMS "lot" = some (some (.ref v4_FORMS)))
    (lv_FORMS4 : K.lookup v4_FORMS = some ⟨.type "tuple", od4_FORMS, .seq #[.str "local" t4_0_FORMS, .str "lots" t4_1_FORMS, .str "expression" t4_2_FORMS] n4_FORMS, sl4_FORMS⟩)
    (vi_FORMS5 : h5_FORMS = PyData.keyHash w.params "ask")
    (ns_FORMS5 : PySem.W.nsIn K a_FORMS "ask" = some (some (.ref v5_FORMS)))
    (lv_FORMS5 : K.lookup v5_FORMS = some ⟨.type "tuple", od5_FORMS, .seq #[.str "local" t5_0_FORMS, .str "asked" t5_1_FORMS, .str "expression" t5_2_FORMS] n5_FORMS, sl5_FORMS⟩)
    (vi_FORMS6 : h6_FORMS = PyData.keyHash w.params "bad")
    (ns_FORMS6 : PySem.W.nsIn K a_FORMS "bad" = some (some (.ref v6_FORMS)))
    (lv_FORMS6 : K.lookup v6_FORMS = some ⟨.type "tuple", od6_FORMS, .seq #[] n6_FORMS, sl6_FORMS⟩)
    (hP_ : PrF l.prog file) :
    ∃ fd : FuncData, (∀ (s : Shared) (v : Value), BindsTo s fd ⟨[v], []⟩ [("script", v)]) ∧ ∀ base : Heap, K.In base → base.Ns mainGlobals mg → FnOk l.prog w K mg base CX0 60 fa fd ["script"] (spLaw K) := by
  have e := hfa.symm.trans (PySem.W.mg_of X G h_law)
  cases e
  have F_law_cell := fun_mk (st := s_law_cell) l_law_cell c_law_cell k_law_cell
  have b_law_cell := F_law_cell.binds (ps := ["script", "k"]) fun _ _ _ _ _ _ us hl => match us, hl with | [_, _], _ => rfl
  have F_law_row := fun_mk (st := s_law_row) l_law_row c_law_row k_law_row
  have b_law_row := F_law_row.binds (ps := ["cell", "count", "size"]) fun _ _ _ _ _ _ us hl => match us, hl with | [_, _, _], _ => rfl
  have F_law_side := fun_mk (st := s_law_side) l_law_side c_law_side k_law_side
  have b_law_side := F_law_side.binds (ps := ["code", "names", "variables", "tables"]) fun _ _ _ _ _ _ us hl => match us, hl with | [_, _, _, _], _ => rfl
  have F_law_value := fun_mk (st := s_law_value) l_law_value c_law_value k_law_value
  have b_law_value := F_law_value.binds (ps := ["cell", "names", "variables", "tables"]) fun _ _ _ _ _ _ us hl => match us, hl with | [_, _, _, _], _ => rfl
  have F_law_plain := fun_mk (st := s_law_plain) l_law_plain c_law_plain k_law_plain
  have b_law_plain := F_law_plain.binds (ps := ["cell", "names", "variables", "tables", "lots"]) fun _ _ _ _ _ _ us hl => match us, hl with | [_, _, _, _, _], _ => rfl
  have F_law_block := fun_mk (st := s_law_block) l_law_block c_law_block k_law_block
  have b_law_block := F_law_block.binds (ps := ["cells", "names", "variables", "tables", "lots"]) fun _ _ _ _ _ _ us hl => match us, hl with | [_, _, _, _, _], _ => rfl
  have F_law_game := fun_mk (st := s_law_game) l_law_game c_law_game k_law_game
  have b_law_game := F_law_game.binds (ps := ["script", "at"]) fun _ _ _ _ _ _ us hl => match us, hl with | [_, _], _ => rfl
  have F_Game_init := fun_mk (st := s_Game_init) l_Game_init c_Game_init k_Game_init
  have b_Game_init := F_Game_init.binds (ps := ["self", "variables", "tables", "lots", "procs"]) fun _ _ _ _ _ _ us hl => match us, hl with | [_, _, _, _, _], _ => rfl
  have F_Game_eq := fun_mk (st := s_Game_eq) l_Game_eq c_Game_eq k_Game_eq
  have b_Game_eq := F_Game_eq.binds (ps := ["self", "other"]) fun _ _ _ _ _ _ us hl => match us, hl with | [_, _], _ => rfl
  have F_Game_proc := fun_mk (st := s_Game_proc) l_Game_proc c_Game_proc k_Game_proc
  have b_Game_proc := F_Game_proc.binds (ps := ["self", "name"]) fun _ _ _ _ _ _ us hl => match us, hl with | [_, _], _ => rfl
  have F_require := fun_mk (st := s_require) l_require c_require k_require
  have b_require := F_require.binds (ps := ["holds", "step"]) fun _ _ _ _ _ _ us hl => match us, hl with | [_, _], _ => rfl
  have F_proc_of := fun_mk (st := s_proc_of) l_proc_of c_proc_of k_proc_of
  have b_proc_of := F_proc_of.binds (ps := ["game", "step"]) fun _ _ _ _ _ _ us hl => match us, hl with | [_, _], _ => rfl
  have F_statement_of := fun_mk (st := s_statement_of) l_statement_of c_statement_of k_statement_of
  have b_statement_of := F_statement_of.binds (ps := ["game", "step"]) fun _ _ _ _ _ _ us hl => match us, hl with | [_, _], _ => rfl
  have F_pair_of := fun_mk (st := s_pair_of) l_pair_of c_pair_of k_pair_of
  have b_pair_of := F_pair_of.binds (ps := ["game", "step"]) fun _ _ _ _ _ _ us hl => match us, hl with | [_, _], _ => rfl
  have F_with_proc := fun_mk (st := s_with_proc) l_with_proc c_with_proc k_with_proc
  have b_with_proc := F_with_proc.binds (ps := ["game", "new"]) fun _ _ _ _ _ _ us hl => match us, hl with | [_, _], _ => rfl
  have F_replaced := fun_mk (st := s_replaced) l_replaced c_replaced k_replaced
  have b_replaced := F_replaced.binds (ps := ["game", "proc", "at", "many", "statements"]) fun _ _ _ _ _ _ us hl => match us, hl with | [_, _, _, _, _], _ => rfl
  have F_every_expression := fun_mk (st := s_every_expression) l_every_expression c_every_expression k_every_expression
  have b_every_expression := F_every_expression.binds (ps := ["expression"]) fun _ _ _ _ _ _ us hl => match us, hl with | [_], _ => rfl
  have F_expression_reads := fun_mk (st := s_expression_reads) l_expression_reads c_expression_reads k_expression_reads
  have b_expression_reads := F_expression_reads.binds (ps := ["expression"]) fun _ _ _ _ _ _ us hl => match us, hl with | [_], _ => rfl
  have F_reads_local := fun_mk (st := s_reads_local) l_reads_local c_reads_local k_reads_local
  have b_reads_local := F_reads_local.binds (ps := ["expression", "local"]) fun _ _ _ _ _ _ us hl => match us, hl with | [_, _], _ => rfl
  have F_inner_blocks := fun_mk (st := s_inner_blocks) l_inner_blocks c_inner_blocks k_inner_blocks
  have b_inner_blocks := F_inner_blocks.binds (ps := ["statement"]) fun _ _ _ _ _ _ us hl => match us, hl with | [_], _ => rfl
  have F_every_statement := fun_mk (st := s_every_statement) l_every_statement c_every_statement k_every_statement
  have b_every_statement := F_every_statement.binds (ps := ["block"]) fun _ _ _ _ _ _ us hl => match us, hl with | [_], _ => rfl
  have F_own_expressions := fun_mk (st := s_own_expressions) l_own_expressions c_own_expressions k_own_expressions
  have b_own_expressions := F_own_expressions.binds (ps := ["statement"]) fun _ _ _ _ _ _ us hl => match us, hl with | [_], _ => rfl
  have F_block_reads := fun_mk (st := s_block_reads) l_block_reads c_block_reads k_block_reads
  have b_block_reads := F_block_reads.binds (ps := ["block"]) fun _ _ _ _ _ _ us hl => match us, hl with | [_], _ => rfl
  have F_proc_reads := fun_mk (st := s_proc_reads) l_proc_reads c_proc_reads k_proc_reads
  have b_proc_reads := F_proc_reads.binds (ps := ["proc"]) fun _ _ _ _ _ _ us hl => match us, hl with | [_], _ => rfl
  have F_own_writes := fun_mk (st := s_own_writes) l_own_writes c_own_writes k_own_writes
  have b_own_writes := F_own_writes.binds (ps := ["statement"]) fun _ _ _ _ _ _ us hl => match us, hl with | [_], _ => rfl
  have F_statement_reads := fun_mk (st := s_statement_reads) l_statement_reads c_statement_reads k_statement_reads
  have b_statement_reads := F_statement_reads.binds (ps := ["statement"]) fun _ _ _ _ _ _ us hl => match us, hl with | [_], _ => rfl
  have F_statement_writes := fun_mk (st := s_statement_writes) l_statement_writes c_statement_writes k_statement_writes
  have b_statement_writes := F_statement_writes.binds (ps := ["statement"]) fun _ _ _ _ _ _ us hl => match us, hl with | [_], _ => rfl
  have F_disturbs := fun_mk (st := s_disturbs) l_disturbs c_disturbs k_disturbs
  have b_disturbs := F_disturbs.binds (ps := ["statement", "other"]) fun _ _ _ _ _ _ us hl => match us, hl with | [_, _], _ => rfl
  have F_swap_step := fun_mk (st := s_swap_step) l_swap_step c_swap_step k_swap_step
  have b_swap_step := F_swap_step.binds (ps := ["game", "step"]) fun _ _ _ _ _ _ us hl => match us, hl with | [_, _], _ => rfl
  have F_drop_step := fun_mk (st := s_drop_step) l_drop_step c_drop_step k_drop_step
  have b_drop_step := F_drop_step.binds (ps := ["game", "step"]) fun _ _ _ _ _ _ us hl => match us, hl with | [_, _], _ => rfl
  have F_same := fun_mk (st := s_same) l_same c_same k_same
  have b_same := F_same.binds (ps := ["game", "step"]) fun _ _ _ _ _ _ us hl => match us, hl with | [_, _], _ => rfl
  have F_law_made := fun_mk (st := s_law_made) l_law_made c_law_made k_law_made
  have b_law_made := F_law_made.binds (ps := ["game"]) fun _ _ _ _ _ _ us hl => match us, hl with | [_], _ => rfl
  have F_law_parts := fun_mk (st := s_law_parts) l_law_parts c_law_parts k_law_parts
  have b_law_parts := F_law_parts.binds (ps := ["game"]) fun _ _ _ _ _ _ us hl => match us, hl with | [_], _ => rfl
  have F_law_uses := fun_mk (st := s_law_uses) l_law_uses c_law_uses k_law_uses
  have b_law_uses := F_law_uses.binds (ps := ["expression"]) fun _ _ _ _ _ _ us hl => match us, hl with | [_], _ => rfl
  have F_law_with := fun_mk (st := s_law_with) l_law_with c_law_with k_law_with
  have b_law_with := F_law_with.binds (ps := ["game", "name", "block", "names"]) fun _ _ _ _ _ _ us hl => match us, hl with | [_, _, _, _], _ => rfl
  have F_law_proc := fun_mk (st := s_law_proc) l_law_proc c_law_proc k_law_proc
  have b_law_proc := F_law_proc.binds (ps := ["game", "name"]) fun _ _ _ _ _ _ us hl => match us, hl with | [_, _], _ => rfl
  have F_law_touch := fun_mk (st := s_law_touch) l_law_touch c_law_touch k_law_touch
  have b_law_touch := F_law_touch.binds (ps := ["block"]) fun _ _ _ _ _ _ us hl => match us, hl with | [_], _ => rfl
  have F_law_alike_value := fun_mk (st := s_law_alike_value) l_law_alike_value c_law_alike_value k_law_alike_value
  have b_law_alike_value := F_law_alike_value.binds (ps := ["value", "other"]) fun _ _ _ _ _ _ us hl => match us, hl with | [_, _], _ => rfl
  have F_law_alike_block := fun_mk (st := s_law_alike_block) l_law_alike_block c_law_alike_block k_law_alike_block
  have b_law_alike_block := F_law_alike_block.binds (ps := ["block", "other"]) fun _ _ _ _ _ _ us hl => match us, hl with | [_, _], _ => rfl
  have F_law_alike := fun_mk (st := s_law_alike) l_law_alike c_law_alike k_law_alike
  have b_law_alike := F_law_alike.binds (ps := ["game", "way"]) fun _ _ _ _ _ _ us hl => match us, hl with | [_, _], _ => rfl
  have F_law_sunken := fun_mk (st := s_law_sunken) l_law_sunken c_law_sunken k_law_sunken
  have b_law_sunken := F_law_sunken.binds (ps := ["game", "cell"]) fun _ _ _ _ _ _ us hl => match us, hl with | [_, _], _ => rfl
  have F_law_tried := fun_mk (st := s_law_tried) l_law_tried c_law_tried k_law_tried
  have b_law_tried := F_law_tried.binds (ps := ["made", "step", "due"]) fun _ _ _ _ _ _ us hl => match us, hl with | [_, _, _], _ => rfl
  have F_law_swapped := fun_mk (st := s_law_swapped) l_law_swapped c_law_swapped k_law_swapped
  have b_law_swapped := F_law_swapped.binds (ps := ["game", "name", "at"]) fun _ _ _ _ _ _ us hl => match us, hl with | [_, _, _], _ => rfl
  have F_law_dropped := fun_mk (st := s_law_dropped) l_law_dropped c_law_dropped k_law_dropped
  have b_law_dropped := F_law_dropped.binds (ps := ["game", "name", "at"]) fun _ _ _ _ _ _ us hl => match us, hl with | [_, _, _], _ => rfl
  have F_law := fun_mk (st := s_law) l_law c_law k_law
  have b_law := F_law.binds (ps := ["script"]) fun _ _ _ _ _ _ us hl => match us, hl with | [_], _ => rfl
  have hRULES := kd_RULES
  have hFORMS := mk_forms (w := w) rm_FORMS ld_FORMS vi_FORMS0 ns_FORMS0 (fun H => .inr ⟨_, _, _, lv_FORMS0, rfl, rfl, (by show 2 ≤ sizeLine; decide), (.cons ⟨_, rfl⟩ (.cons ⟨_, rfl⟩ .nil))⟩) vi_FORMS1 ns_FORMS1 (fun H => .inr ⟨_, _, _, lv_FORMS1, rfl, rfl, (by show 2 ≤ sizeLine; decide), (.cons ⟨_, rfl⟩ (.cons ⟨_, rfl⟩ .nil))⟩) vi_FORMS2 ns_FORMS2 (fun H => .inr ⟨_, _, _, lv_FORMS2, rfl, rfl, (by show 2 ≤ sizeLine; decide), (.cons ⟨_, rfl⟩ (.cons ⟨_, rfl⟩ .nil))⟩) vi_FORMS3 ns_FORMS3 (fun H => .inr ⟨_, _, _, lv_FORMS3, rfl, rfl, (by show 3 ≤ sizeLine; decide), (.cons ⟨_, rfl⟩ (.cons ⟨_, rfl⟩ (.cons ⟨_, rfl⟩ .nil)))⟩) vi_FORMS4 ns_FORMS4 (fun H => .inr ⟨_, _, _, lv_FORMS4, rfl, rfl, (by show 3 ≤ sizeLine; decide), (.cons ⟨_, rfl⟩ (.cons ⟨_, rfl⟩ (.cons ⟨_, rfl⟩ .nil)))⟩) vi_FORMS5 ns_FORMS5 (fun H => .inr ⟨_, _, _, lv_FORMS5, rfl, rfl, (by show 3 ≤ sizeLine; decide), (.cons ⟨_, rfl⟩ (.cons ⟨_, rfl⟩ (.cons ⟨_, rfl⟩ .nil)))⟩) vi_FORMS6 ns_FORMS6 (fun H => .inr ⟨_, _, _, lv_FORMS6, rfl, rfl, (by show 0 ≤ sizeLine; decide), .nil⟩)
  refine ⟨PySem.W.fnOf "law" "law" (defArgs s_law) (defBody s_law) (defScope s_law) .none kV_law dc_law pm_law an_law cd_law ct_law, fun s v => .of_eq rfl, fun base _ _ => ?_⟩
  exact ok_law hP_ (mg := mg) (K := K) {
    a_BadStep_init := _
    fd_BadStep_init := _
    a_law_cell := _
    fd_law_cell := _
    a_law_row := _
    fd_law_row := _
    a_law_side := _
    fd_law_side := _
    a_law_value := _
    fd_law_value := _
    a_law_plain := _
    fd_law_plain := _
    a_law_block := _
    fd_law_block := _
    a_law_game := _
    fd_law_game := _
    a_Game_init := _
    fd_Game_init := _
    a_Game_eq := _
    fd_Game_eq := _
    a_Game_proc := _
    fd_Game_proc := _
    a_require := _
    fd_require := _
    a_proc_of := _
    fd_proc_of := _
    a_statement_of := _
    fd_statement_of := _
    a_pair_of := _
    fd_pair_of := _
    a_with_proc := _
    fd_with_proc := _
    a_replaced := _
    fd_replaced := _
    a_every_expression := _
    fd_every_expression := _
    a_expression_reads := _
    fd_expression_reads := _
    a_reads_local := _
    fd_reads_local := _
    a_inner_blocks := _
    fd_inner_blocks := _
    a_every_statement := _
    fd_every_statement := _
    a_own_expressions := _
    fd_own_expressions := _
    a_block_reads := _
    fd_block_reads := _
    a_proc_reads := _
    fd_proc_reads := _
    a_own_writes := _
    fd_own_writes := _
    a_statement_reads := _
    fd_statement_reads := _
    a_statement_writes := _
    fd_statement_writes := _
    a_disturbs := _
    fd_disturbs := _
    a_swap_step := _
    fd_swap_step := _
    a_drop_step := _
    fd_drop_step := _
    a_same := _
    fd_same := _
    a_law_made := _
    fd_law_made := _
    a_law_parts := _
    fd_law_parts := _
    a_law_uses := _
    fd_law_uses := _
    a_law_with := _
    fd_law_with := _
    a_law_proc := _
    fd_law_proc := _
    a_law_touch := _
    fd_law_touch := _
    a_law_alike_value := _
    fd_law_alike_value := _
    a_law_alike_block := _
    fd_law_alike_block := _
    a_law_alike := _
    fd_law_alike := _
    a_law_sunken := _
    fd_law_sunken := _
    a_law_tried := _
    fd_law_tried := _
    a_law_swapped := _
    fd_law_swapped := _
    a_law_dropped := _
    fd_law_dropped := _
    a_law := _
    fd_law := _
    C_Game := _
    C_BadStep := _
    C_PlayError := _
    C_BadBound := _
    C_BadCall := _
    C_BadPlayer := _
    C_BadText := _
    C_TooLarge := _
    o_n := o_n
    o_t := o_t
    g_Game := PySem.W.mg_of X G hC_Game
    cl_Game := ⟨pg_Game, hd_Game, po_Game, sa_Game⟩
    sf_Game := sf_Game
    na_Game_variables := na_Game_variables
    na_Game_tables := na_Game_tables
    na_Game_lots := na_Game_lots
    na_Game_procs := na_Game_procs
    ia_Game := ia_Game
    im_Game := im_Game
    ik_Game := ik_Game
    F_law_cell := F_law_cell
    b_law_cell := b_law_cell
    k_law_cell := k_law_cell
    g_law_cell := PySem.W.mg_of X G h_law_cell
    F_law_row := F_law_row
    b_law_row := b_law_row
    k_law_row := k_law_row
    g_law_row := PySem.W.mg_of X G h_law_row
    F_law_side := F_law_side
    b_law_side := b_law_side
    k_law_side := k_law_side
    g_law_side := PySem.W.mg_of X G h_law_side
    F_law_value := F_law_value
    b_law_value := b_law_value
    k_law_value := k_law_value
    g_law_value := PySem.W.mg_of X G h_law_value
    F_law_plain := F_law_plain
    b_law_plain := b_law_plain
    k_law_plain := k_law_plain
    g_law_plain := PySem.W.mg_of X G h_law_plain
    F_law_block := F_law_block
    b_law_block := b_law_block
    k_law_block := k_law_block
    g_law_block := PySem.W.mg_of X G h_law_block
    F_law_game := F_law_game
    b_law_game := b_law_game
    k_law_game := k_law_game
    g_law_game := PySem.W.mg_of X G h_law_game
    F_Game_init := F_Game_init
    b_Game_init := b_Game_init
    k_Game_init := k_Game_init
    m_Game_init := ⟨h_Game_init, i_Game_init, k_Game_init⟩
    F_Game_eq := F_Game_eq
    b_Game_eq := b_Game_eq
    k_Game_eq := k_Game_eq
    m_Game_eq := ⟨h_Game_eq, i_Game_eq, k_Game_eq⟩
    F_Game_proc := F_Game_proc
    b_Game_proc := b_Game_proc
    k_Game_proc := k_Game_proc
    m_Game_proc := ⟨h_Game_proc, i_Game_proc, k_Game_proc⟩
    F_require := F_require
    b_require := b_require
    k_require := k_require
    g_require := PySem.W.mg_of X G h_require
    F_proc_of := F_proc_of
    b_proc_of := b_proc_of
    k_proc_of := k_proc_of
    g_proc_of := PySem.W.mg_of X G h_proc_of
    F_statement_of := F_statement_of
    b_statement_of := b_statement_of
    k_statement_of := k_statement_of
    g_statement_of := PySem.W.mg_of X G h_statement_of
    F_pair_of := F_pair_of
    b_pair_of := b_pair_of
    k_pair_of := k_pair_of
    g_pair_of := PySem.W.mg_of X G h_pair_of
    F_with_proc := F_with_proc
    b_with_proc := b_with_proc
    k_with_proc := k_with_proc
    g_with_proc := PySem.W.mg_of X G h_with_proc
    F_replaced := F_replaced
    b_replaced := b_replaced
    k_replaced := k_replaced
    g_replaced := PySem.W.mg_of X G h_replaced
    F_every_expression := F_every_expression
    b_every_expression := b_every_expression
    k_every_expression := k_every_expression
    g_every_expression := PySem.W.mg_of X G h_every_expression
    F_expression_reads := F_expression_reads
    b_expression_reads := b_expression_reads
    k_expression_reads := k_expression_reads
    g_expression_reads := PySem.W.mg_of X G h_expression_reads
    F_reads_local := F_reads_local
    b_reads_local := b_reads_local
    k_reads_local := k_reads_local
    g_reads_local := PySem.W.mg_of X G h_reads_local
    F_inner_blocks := F_inner_blocks
    b_inner_blocks := b_inner_blocks
    k_inner_blocks := k_inner_blocks
    g_inner_blocks := PySem.W.mg_of X G h_inner_blocks
    F_every_statement := F_every_statement
    b_every_statement := b_every_statement
    k_every_statement := k_every_statement
    g_every_statement := PySem.W.mg_of X G h_every_statement
    F_own_expressions := F_own_expressions
    b_own_expressions := b_own_expressions
    k_own_expressions := k_own_expressions
    g_own_expressions := PySem.W.mg_of X G h_own_expressions
    F_block_reads := F_block_reads
    b_block_reads := b_block_reads
    k_block_reads := k_block_reads
    g_block_reads := PySem.W.mg_of X G h_block_reads
    F_proc_reads := F_proc_reads
    b_proc_reads := b_proc_reads
    k_proc_reads := k_proc_reads
    g_proc_reads := PySem.W.mg_of X G h_proc_reads
    F_own_writes := F_own_writes
    b_own_writes := b_own_writes
    k_own_writes := k_own_writes
    g_own_writes := PySem.W.mg_of X G h_own_writes
    F_statement_reads := F_statement_reads
    b_statement_reads := b_statement_reads
    k_statement_reads := k_statement_reads
    g_statement_reads := PySem.W.mg_of X G h_statement_reads
    F_statement_writes := F_statement_writes
    b_statement_writes := b_statement_writes
    k_statement_writes := k_statement_writes
    g_statement_writes := PySem.W.mg_of X G h_statement_writes
    F_disturbs := F_disturbs
    b_disturbs := b_disturbs
    k_disturbs := k_disturbs
    g_disturbs := PySem.W.mg_of X G h_disturbs
    F_swap_step := F_swap_step
    b_swap_step := b_swap_step
    k_swap_step := k_swap_step
    g_swap_step := PySem.W.mg_of X G h_swap_step
    F_drop_step := F_drop_step
    b_drop_step := b_drop_step
    k_drop_step := k_drop_step
    g_drop_step := PySem.W.mg_of X G h_drop_step
    F_same := F_same
    b_same := b_same
    k_same := k_same
    g_same := PySem.W.mg_of X G h_same
    F_law_made := F_law_made
    b_law_made := b_law_made
    k_law_made := k_law_made
    g_law_made := PySem.W.mg_of X G h_law_made
    F_law_parts := F_law_parts
    b_law_parts := b_law_parts
    k_law_parts := k_law_parts
    g_law_parts := PySem.W.mg_of X G h_law_parts
    F_law_uses := F_law_uses
    b_law_uses := b_law_uses
    k_law_uses := k_law_uses
    g_law_uses := PySem.W.mg_of X G h_law_uses
    F_law_with := F_law_with
    b_law_with := b_law_with
    k_law_with := k_law_with
    g_law_with := PySem.W.mg_of X G h_law_with
    F_law_proc := F_law_proc
    b_law_proc := b_law_proc
    k_law_proc := k_law_proc
    g_law_proc := PySem.W.mg_of X G h_law_proc
    F_law_touch := F_law_touch
    b_law_touch := b_law_touch
    k_law_touch := k_law_touch
    g_law_touch := PySem.W.mg_of X G h_law_touch
    F_law_alike_value := F_law_alike_value
    b_law_alike_value := b_law_alike_value
    k_law_alike_value := k_law_alike_value
    g_law_alike_value := PySem.W.mg_of X G h_law_alike_value
    F_law_alike_block := F_law_alike_block
    b_law_alike_block := b_law_alike_block
    k_law_alike_block := k_law_alike_block
    g_law_alike_block := PySem.W.mg_of X G h_law_alike_block
    F_law_alike := F_law_alike
    b_law_alike := b_law_alike
    k_law_alike := k_law_alike
    g_law_alike := PySem.W.mg_of X G h_law_alike
    F_law_sunken := F_law_sunken
    b_law_sunken := b_law_sunken
    k_law_sunken := k_law_sunken
    g_law_sunken := PySem.W.mg_of X G h_law_sunken
    F_law_tried := F_law_tried
    b_law_tried := b_law_tried
    k_law_tried := k_law_tried
    g_law_tried := PySem.W.mg_of X G h_law_tried
    F_law_swapped := F_law_swapped
    b_law_swapped := b_law_swapped
    k_law_swapped := k_law_swapped
    g_law_swapped := PySem.W.mg_of X G h_law_swapped
    F_law_dropped := F_law_dropped
    b_law_dropped := b_law_dropped
    k_law_dropped := k_law_dropped
    g_law_dropped := PySem.W.mg_of X G h_law_dropped
    F_law := F_law
    b_law := b_law
    k_law := k_law
    g_law := PySem.W.mg_of X G h_law
    mk_Game := ⟨mk_Game, h_Game_init, i_Game_init, kc_Game⟩
    g_BadStep := PySem.W.mg_of X G hC_BadStep
    kc_BadStep := kc_BadStep
    xb_BadStep := xb_BadStep
    xt_BadStep := xt_BadStep
    xd_BadStep := xd_BadStep
    z_super := PySem.W.mg_none_of X G zn_super
    E_BadStep := { ex := ⟨_, _, _, _, _, _, _, _, _, _, _, _, _, _, _, _, _, _, _, rfl, li_BadStep_init, ci_BadStep_init, di_BadStep_init, vi_BadStep_init, xi_BadStep_init⟩, any := any_, sup := si_BadStep_init, subV := ui_BadStep_init, mro := mi_BadStep_init, T := ⟨⟨_, _, _, _, _, _, _, _, _, _, _, _, _, _, _, lc_BadStep_init, rm_BadStep_init⟩, sa_BadStep_init, xb_BadStep, xt_BadStep, kc_BadStep⟩, iC := hi_BadStep_init, tI := ti_BadStep_init, no := no_BadStep_init, z := PySem.W.mg_none_of X G zn_super }
    b_BadStep_init := (.all fun us hl => match us, hl with | [_, _], _ => rfl)
    g_PlayError := PySem.W.mg_of X G hC_PlayError
    kc_PlayError := kc_PlayError
    xb_PlayError := xb_PlayError
    xt_PlayError := xt_PlayError
    xd_PlayError := xd_PlayError
    g_BadBound := PySem.W.mg_of X G hC_BadBound
    g_BadCall := PySem.W.mg_of X G hC_BadCall
    g_BadPlayer := PySem.W.mg_of X G hC_BadPlayer
    g_BadText := PySem.W.mg_of X G hC_BadText
    g_TooLarge := PySem.W.mg_of X G hC_TooLarge
    ec_BadStep := ⟨eg_BadStep, ek_BadStep, xb_BadStep, xd_BadStep, ea_BadStep, o_n, o_t, em_BadStep⟩
    a_OPERATORS := _
    g_OPERATORS := PySem.W.mg_of X G hg_OPERATORS
    q_OPERATORS := fun H => .inr ⟨_, _, _, lq_OPERATORS, rfl, rfl, (by show 7 ≤ sizeLine; decide), (.cons ⟨_, rfl⟩ (.cons ⟨_, rfl⟩ (.cons ⟨_, rfl⟩ (.cons ⟨_, rfl⟩ (.cons ⟨_, rfl⟩ (.cons ⟨_, rfl⟩ (.cons ⟨_, rfl⟩ .nil)))))))⟩
    a_LOOKS := _
    g_LOOKS := PySem.W.mg_of X G hg_LOOKS
    q_LOOKS := fun H => .inr ⟨_, _, _, lq_LOOKS, rfl, rfl, (by show 2 ≤ sizeLine; decide), (.cons ⟨_, rfl⟩ (.cons ⟨_, rfl⟩ .nil))⟩
    a_BAD := _
    g_BAD := PySem.W.mg_of X G hg_BAD
    q_BAD := fun H => .inr ⟨_, _, _, lq_BAD, rfl, rfl, (by show 2 ≤ sizeLine; decide), (.cons ⟨_, rfl⟩ (.cons ⟨_, rfl⟩ .nil))⟩
    a_RULES := _
    g_RULES := PySem.W.mg_of X G hg_RULES
    ns_RULES_0 := ns_RULES_0
    ns_RULES_1 := ns_RULES_1
    z_len := PySem.W.mg_none_of X G zn_len
    z_range := PySem.W.mg_none_of X G zn_range
    z_int := PySem.W.mg_none_of X G zn_int
    z_tuple := PySem.W.mg_none_of X G zn_tuple
    z_list := PySem.W.mg_none_of X G zn_list
    z_isinstance := PySem.W.mg_none_of X G zn_isinstance
    z_abs := PySem.W.mg_none_of X G zn_abs
    z_max := PySem.W.mg_none_of X G zn_max
    z_zip := PySem.W.mg_none_of X G zn_zip
    z_any := PySem.W.mg_none_of X G zn_any
    z_set := PySem.W.mg_none_of X G zn_set
    xga_BadStep := xga_BadStep
    xgg_BadStep := xgg_BadStep
    sub_sp := sub_sp
    ki_s := ki_s
    ki_e := ki_e
    a_FORMS := _
    g_FORMS := PySem.W.mg_of X G hg_FORMS } hRULES hFORMS
def exs0 : List (PySem.W.Frag → Bool) := [
    fun K => HdF.vexB K (He.ga K "BadStep"),
    fun K => HdF.tupAt K (He.ga K "OPERATORS") [.str "+", .str "-", .str "*", .str "/", .str "mod", .str "<", .str "="],
    fun K => HdF.tupAt K (He.ga K "LOOKS") [.str "has", .str "cell"],
    fun K => HdF.tupAt K (He.ga K "BAD") [.str "bad", .str ""],
    fun K => HdF.refsB K (He.ga K "FORMS"),
    fun K => HdF.tupAt K (HdF.valAt K (He.ga K "FORMS") 0) [.str "variable", .str "expression"],
    fun K => HdF.tupAt K (HdF.valAt K (He.ga K "FORMS") 1) [.str "local", .str "expression"],
    fun K => HdF.tupAt K (HdF.valAt K (He.ga K "FORMS") 2) [.str "local", .str "number"],
    fun K => HdF.tupAt K (HdF.valAt K (He.ga K "FORMS") 3) [.str "table", .str "expression", .str "expression"],
    fun K => HdF.tupAt K (HdF.valAt K (He.ga K "FORMS") 4) [.str "local", .str "lots", .str "expression"],
    fun K => HdF.tupAt K (HdF.valAt K (He.ga K "FORMS") 5) [.str "local", .str "asked", .str "expression"],
    fun K => HdF.tupAt K (HdF.valAt K (He.ga K "FORMS") 6) [],
    fun K => decide (PySem.W.specialIn K (.builtin "object.__class__") "__get__" = some (some (.builtin "getset_descriptor.__get__"))),
    fun K => decide (PySem.W.takesIn K (.builtin "object.__class__") = some true),
    fun K => decide (PySem.W.nsIn K mainGlobals "Game" = some (some (.ref (He.ga K "Game")))),
    fun K => decide (PySem.W.plainGet K (He.ga K "Game") Str.empty = true),
    fun K => decide (PySem.W.hasDictIn K (He.ga K "Game") = true),
    fun K => decide (PySem.W.plainOver K (He.ga K "Game") = true),
    fun K => decide (PySem.W.findIn K (.ref (He.ga K "Game")) "__setattr__" = some (some (.builtin "object.__setattr__"))),
    fun K => decide (PySem.W.makesIn K (He.ga K "Game") = true),
    fun K => decide (PySem.W.keepIn K (.ref (He.ga K "Game")) = true),
    fun K => decide (PySem.W.selfFirst K (He.ga K "Game") = true),
    fun K => decide (PySem.W.findIn K (.ref (He.ga K "Game")) "variables" = some none),
    fun K => decide (PySem.W.findIn K (.ref (He.ga K "Game")) "tables" = some none),
    fun K => decide (PySem.W.findIn K (.ref (He.ga K "Game")) "lots" = some none),
    fun K => decide (PySem.W.findIn K (.ref (He.ga K "Game")) "procs" = some none),
    fun K => decide (PySem.W.findIn K (.ref (He.ga K "Game")) "__class__" = some (some (.builtin "object.__class__"))),
    fun K => decide (PySem.W.mroIn K (He.ga K "Game") (.type "object") = some true),
    fun K => decide (PySem.W.kitOne K (.ref (He.ga K "Game")) (.ref (He.ga K "Game")) = some true),
    fun K => decide (PySem.W.nsIn K mainGlobals "_law_cell" = some (some (.ref (He.ga K "_law_cell")))),
    fun K => decide (PySem.W.nsIn K mainGlobals "_law_row" = some (some (.ref (He.ga K "_law_row")))),
    fun K => decide (PySem.W.nsIn K mainGlobals "_law_side" = some (some (.ref (He.ga K "_law_side")))),
    fun K => decide (PySem.W.nsIn K mainGlobals "_law_value" = some (some (.ref (He.ga K "_law_value")))),
    fun K => decide (PySem.W.nsIn K mainGlobals "_law_plain" = some (some (.ref (He.ga K "_law_plain")))),
    fun K => decide (PySem.W.nsIn K mainGlobals "_law_block" = some (some (.ref (He.ga K "_law_block")))),
    fun K => decide (PySem.W.nsIn K mainGlobals "_law_game" = some (some (.ref (He.ga K "_law_game")))),
    fun K => decide (PySem.W.findIn K (.ref (He.ga K "Game")) "__init__" = some (some (.ref (He.ma K (He.ga K "Game") "__init__")))),
    fun K => decide (PySem.W.isFn K (.ref (He.ma K (He.ga K "Game") "__init__")) = true),
    fun K => decide (PySem.W.findIn K (.ref (He.ga K "Game")) "__eq__" = some (some (.ref (He.ma K (He.ga K "Game") "__eq__")))),
    fun K => decide (PySem.W.isFn K (.ref (He.ma K (He.ga K "Game") "__eq__")) = true)]
def exs1 : List (PySem.W.Frag → Bool) := [
    fun K => decide (PySem.W.findIn K (.ref (He.ga K "Game")) "proc" = some (some (.ref (He.ma K (He.ga K "Game") "proc")))),
    fun K => decide (PySem.W.isFn K (.ref (He.ma K (He.ga K "Game") "proc")) = true),
    fun K => decide (PySem.W.nsIn K mainGlobals "require" = some (some (.ref (He.ga K "require")))),
    fun K => decide (PySem.W.nsIn K mainGlobals "proc_of" = some (some (.ref (He.ga K "proc_of")))),
    fun K => decide (PySem.W.nsIn K mainGlobals "statement_of" = some (some (.ref (He.ga K "statement_of")))),
    fun K => decide (PySem.W.nsIn K mainGlobals "pair_of" = some (some (.ref (He.ga K "pair_of")))),
    fun K => decide (PySem.W.nsIn K mainGlobals "with_proc" = some (some (.ref (He.ga K "with_proc")))),
    fun K => decide (PySem.W.nsIn K mainGlobals "replaced" = some (some (.ref (He.ga K "replaced")))),
    fun K => decide (PySem.W.nsIn K mainGlobals "every_expression" = some (some (.ref (He.ga K "every_expression")))),
    fun K => decide (PySem.W.nsIn K mainGlobals "expression_reads" = some (some (.ref (He.ga K "expression_reads")))),
    fun K => decide (PySem.W.nsIn K mainGlobals "reads_local" = some (some (.ref (He.ga K "reads_local")))),
    fun K => decide (PySem.W.nsIn K mainGlobals "inner_blocks" = some (some (.ref (He.ga K "inner_blocks")))),
    fun K => decide (PySem.W.nsIn K mainGlobals "every_statement" = some (some (.ref (He.ga K "every_statement")))),
    fun K => decide (PySem.W.nsIn K mainGlobals "own_expressions" = some (some (.ref (He.ga K "own_expressions")))),
    fun K => decide (PySem.W.nsIn K mainGlobals "block_reads" = some (some (.ref (He.ga K "block_reads")))),
    fun K => decide (PySem.W.nsIn K mainGlobals "proc_reads" = some (some (.ref (He.ga K "proc_reads")))),
    fun K => decide (PySem.W.nsIn K mainGlobals "own_writes" = some (some (.ref (He.ga K "own_writes")))),
    fun K => decide (PySem.W.nsIn K mainGlobals "statement_reads" = some (some (.ref (He.ga K "statement_reads")))),
    fun K => decide (PySem.W.nsIn K mainGlobals "statement_writes" = some (some (.ref (He.ga K "statement_writes")))),
    fun K => decide (PySem.W.nsIn K mainGlobals "disturbs" = some (some (.ref (He.ga K "disturbs")))),
    fun K => decide (PySem.W.nsIn K mainGlobals "swap_step" = some (some (.ref (He.ga K "swap_step")))),
    fun K => decide (PySem.W.nsIn K mainGlobals "drop_step" = some (some (.ref (He.ga K "drop_step")))),
    fun K => decide (PySem.W.nsIn K mainGlobals "same" = some (some (.ref (He.ga K "same")))),
    fun K => decide (PySem.W.nsIn K mainGlobals "_law_made" = some (some (.ref (He.ga K "_law_made")))),
    fun K => decide (PySem.W.nsIn K mainGlobals "_law_parts" = some (some (.ref (He.ga K "_law_parts")))),
    fun K => decide (PySem.W.nsIn K mainGlobals "_law_uses" = some (some (.ref (He.ga K "_law_uses")))),
    fun K => decide (PySem.W.nsIn K mainGlobals "_law_with" = some (some (.ref (He.ga K "_law_with")))),
    fun K => decide (PySem.W.nsIn K mainGlobals "_law_proc" = some (some (.ref (He.ga K "_law_proc")))),
    fun K => decide (PySem.W.nsIn K mainGlobals "_law_touch" = some (some (.ref (He.ga K "_law_touch")))),
    fun K => decide (PySem.W.nsIn K mainGlobals "_law_alike_value" = some (some (.ref (He.ga K "_law_alike_value")))),
    fun K => decide (PySem.W.nsIn K mainGlobals "_law_alike_block" = some (some (.ref (He.ga K "_law_alike_block")))),
    fun K => decide (PySem.W.nsIn K mainGlobals "_law_alike" = some (some (.ref (He.ga K "_law_alike")))),
    fun K => decide (PySem.W.nsIn K mainGlobals "_law_sunken" = some (some (.ref (He.ga K "_law_sunken")))),
    fun K => decide (PySem.W.nsIn K mainGlobals "_law_tried" = some (some (.ref (He.ga K "_law_tried")))),
    fun K => decide (PySem.W.nsIn K mainGlobals "_law_swapped" = some (some (.ref (He.ga K "_law_swapped")))),
    fun K => decide (PySem.W.nsIn K mainGlobals "_law_dropped" = some (some (.ref (He.ga K "_law_dropped")))),
    fun K => decide (PySem.W.nsIn K mainGlobals "law" = some (some (.ref (He.ga K "law")))),
    fun K => decide (PySem.W.nsIn K mainGlobals "BadStep" = some (some (.ref (He.ga K "BadStep")))),
    fun K => decide (PySem.W.keepIn K (.ref (He.ga K "BadStep")) = true),
    fun K => decide (PySem.W.subIn K (.ref (He.ga K "BadStep")) (.type "BaseException") = some true)]
def exs2 : List (PySem.W.Frag → Bool) := [
    fun K => decide (PySem.W.typeIn K (.ref (He.ga K "BadStep")) = some (.type "type")),
    fun K => decide (PySem.W.hasDictIn K (He.ga K "BadStep") = true),
    fun K => decide (PySem.W.nsIn K cStatics "thirdparty.any" = some none),
    fun K => decide (PySem.W.nsIn K mainGlobals "super" = some none),
    fun K => decide (PySem.W.findIn K (.ref (He.ga K "BadStep")) "__init__" = some (some (.ref (He.ma K (He.ga K "BadStep") "__init__")))),
    fun K => decide (PySem.W.typeIn K (.ref (He.ma K (He.ga K "BadStep") "__init__")) = some (.type "function")),
    fun K => decide (PySem.W.ks_superIn K (He.ga K "BadStep") (He.ga K "BadStep") "__init__" = some (some (.builtin "ValueError.__init__"))),
    fun K => decide (PySem.W.subIn K (.ref (He.ga K "BadStep")) (.type "ValueError") = some true),
    fun K => decide (PySem.W.mroIn K (He.ga K "BadStep") (.ref (He.ga K "BadStep")) = some true),
    fun K => decide (PySem.W.findIn K (.ref (He.ga K "BadStep")) "__setattr__" = some (some (.builtin "object.__setattr__"))),
    fun K => decide (PySem.W.findIn K (.ref (He.ga K "BadStep")) "rule" = some none),
    fun K => decide (PySem.W.nsIn K mainGlobals "PlayError" = some (some (.ref (He.ga K "PlayError")))),
    fun K => decide (PySem.W.keepIn K (.ref (He.ga K "PlayError")) = true),
    fun K => decide (PySem.W.subIn K (.ref (He.ga K "PlayError")) (.type "BaseException") = some true),
    fun K => decide (PySem.W.typeIn K (.ref (He.ga K "PlayError")) = some (.type "type")),
    fun K => decide (PySem.W.hasDictIn K (He.ga K "PlayError") = true),
    fun K => decide (PySem.W.nsIn K mainGlobals "BadBound" = some (some (.ref (He.ga K "BadBound")))),
    fun K => decide (PySem.W.nsIn K mainGlobals "BadCall" = some (some (.ref (He.ga K "BadCall")))),
    fun K => decide (PySem.W.nsIn K mainGlobals "BadPlayer" = some (some (.ref (He.ga K "BadPlayer")))),
    fun K => decide (PySem.W.nsIn K mainGlobals "BadText" = some (some (.ref (He.ga K "BadText")))),
    fun K => decide (PySem.W.nsIn K mainGlobals "TooLarge" = some (some (.ref (He.ga K "TooLarge")))),
    fun K => decide (PySem.W.findIn K (.ref (He.ga K "BadStep")) "__getattribute__" = some (some (.builtin "BaseException.__getattribute__"))),
    fun K => decide (PySem.W.findIn K (.ref (He.ga K "BadStep")) "__getattr__" = some none),
    fun K => decide (PySem.W.findIn K (.ref (He.ga K "BadStep")) "__class__" = some (some (.builtin "object.__class__"))),
    fun K => decide (PySem.W.mroIn K (He.ga K "BadStep") (.type "object") = some true),
    fun K => decide (PySem.W.nsIn K mainGlobals "OPERATORS" = some (some (.ref (He.ga K "OPERATORS")))),
    fun K => decide (PySem.W.nsIn K mainGlobals "LOOKS" = some (some (.ref (He.ga K "LOOKS")))),
    fun K => decide (PySem.W.nsIn K mainGlobals "BAD" = some (some (.ref (He.ga K "BAD")))),
    fun K => decide (PySem.W.nsIn K mainGlobals "RULES" = some (some (.ref (He.ga K "RULES")))),
    fun K => decide (PySem.W.nsIn K (He.ga K "RULES") "swap" = some (some (.ref (He.ga K "swap_step")))),
    fun K => decide (PySem.W.nsIn K (He.ga K "RULES") "drop" = some (some (.ref (He.ga K "drop_step")))),
    fun K => decide (PySem.W.nsIn K mainGlobals "len" = some none),
    fun K => decide (PySem.W.nsIn K mainGlobals "range" = some none),
    fun K => decide (PySem.W.nsIn K mainGlobals "int" = some none),
    fun K => decide (PySem.W.nsIn K mainGlobals "tuple" = some none),
    fun K => decide (PySem.W.nsIn K mainGlobals "list" = some none),
    fun K => decide (PySem.W.nsIn K mainGlobals "isinstance" = some none),
    fun K => decide (PySem.W.nsIn K mainGlobals "abs" = some none),
    fun K => decide (PySem.W.nsIn K mainGlobals "max" = some none),
    fun K => decide (PySem.W.nsIn K mainGlobals "zip" = some none)]
def exs3 : List (PySem.W.Frag → Bool) := [
    fun K => decide (PySem.W.nsIn K mainGlobals "any" = some none),
    fun K => decide (PySem.W.nsIn K mainGlobals "set" = some none),
    fun K => decide (PySem.W.subIn K (.ref (He.ga K "BadStep")) (.ref (He.ga K "PlayError")) = some true),
    fun K => decide (PySem.W.kitOne K (.ref (He.ga K "BadStep")) (.ref (He.ga K "BadStep")) = some true),
    fun K => decide (PySem.W.kitAny K (.ref (He.ga K "BadStep")) [.ref (He.ga K "BadBound"), .ref (He.ga K "BadCall"), .ref (He.ga K "BadPlayer"), .ref (He.ga K "BadText"), .ref (He.ga K "TooLarge")] = some false),
    fun K => decide (PySem.W.nsIn K mainGlobals "FORMS" = some (some (.ref (He.ga K "FORMS"))))]
abbrev R : PySem.W.OpenRow := PySem.W.OpenLaw.row PySem.Challenge.rw_tellsnone_k41_swapped_and_dropped_statem
def file0 : Str := "/claim/cut.py"
def exs : HdF.Ex := [exs0, exs1, exs2, exs3]
def fns0 : List HdF.DefF := [
    ⟨("_law_cell", none), "_law_cell", "_law_cell", defArgs s_law_cell, defBody s_law_cell, defScope s_law_cell, [], none⟩,
    ⟨("_law_row", none), "_law_row", "_law_row", defArgs s_law_row, defBody s_law_row, defScope s_law_row, [], none⟩,
    ⟨("_law_side", none), "_law_side", "_law_side", defArgs s_law_side, defBody s_law_side, defScope s_law_side, [], none⟩,
    ⟨("_law_value", none), "_law_value", "_law_value", defArgs s_law_value, defBody s_law_value, defScope s_law_value, [], none⟩,
    ⟨("_law_plain", none), "_law_plain", "_law_plain", defArgs s_law_plain, defBody s_law_plain, defScope s_law_plain, [], none⟩,
    ⟨("_law_block", none), "_law_block", "_law_block", defArgs s_law_block, defBody s_law_block, defScope s_law_block, [], none⟩,
    ⟨("_law_game", none), "_law_game", "_law_game", defArgs s_law_game, defBody s_law_game, defScope s_law_game, [], none⟩,
    ⟨("Game", some "__init__"), "__init__", "Game.__init__", defArgs s_Game_init, defBody s_Game_init, defScope s_Game_init, [], none⟩,
    ⟨("Game", some "__eq__"), "__eq__", "Game.__eq__", defArgs s_Game_eq, defBody s_Game_eq, defScope s_Game_eq, [], none⟩,
    ⟨("Game", some "proc"), "proc", "Game.proc", defArgs s_Game_proc, defBody s_Game_proc, defScope s_Game_proc, [], none⟩,
    ⟨("require", none), "require", "require", defArgs s_require, defBody s_require, defScope s_require, [], none⟩,
    ⟨("proc_of", none), "proc_of", "proc_of", defArgs s_proc_of, defBody s_proc_of, defScope s_proc_of, [], none⟩,
    ⟨("statement_of", none), "statement_of", "statement_of", defArgs s_statement_of, defBody s_statement_of, defScope s_statement_of, [], none⟩,
    ⟨("pair_of", none), "pair_of", "pair_of", defArgs s_pair_of, defBody s_pair_of, defScope s_pair_of, [], none⟩,
    ⟨("with_proc", none), "with_proc", "with_proc", defArgs s_with_proc, defBody s_with_proc, defScope s_with_proc, [], none⟩,
    ⟨("replaced", none), "replaced", "replaced", defArgs s_replaced, defBody s_replaced, defScope s_replaced, [], none⟩,
    ⟨("every_expression", none), "every_expression", "every_expression", defArgs s_every_expression, defBody s_every_expression, defScope s_every_expression, [], none⟩,
    ⟨("expression_reads", none), "expression_reads", "expression_reads", defArgs s_expression_reads, defBody s_expression_reads, defScope s_expression_reads, [], none⟩,
    ⟨("reads_local", none), "reads_local", "reads_local", defArgs s_reads_local, defBody s_reads_local, defScope s_reads_local, [], none⟩,
    ⟨("inner_blocks", none), "inner_blocks", "inner_blocks", defArgs s_inner_blocks, defBody s_inner_blocks, defScope s_inner_blocks, [], none⟩,
    ⟨("every_statement", none), "every_statement", "every_statement", defArgs s_every_statement, defBody s_every_statement, defScope s_every_statement, [], none⟩,
    ⟨("own_expressions", none), "own_expressions", "own_expressions", defArgs s_own_expressions, defBody s_own_expressions, defScope s_own_expressions, [], none⟩,
    ⟨("block_reads", none), "block_reads", "block_reads", defArgs s_block_reads, defBody s_block_reads, defScope s_block_reads, [], none⟩,
    ⟨("proc_reads", none), "proc_reads", "proc_reads", defArgs s_proc_reads, defBody s_proc_reads, defScope s_proc_reads, [], none⟩,
    ⟨("own_writes", none), "own_writes", "own_writes", defArgs s_own_writes, defBody s_own_writes, defScope s_own_writes, [], none⟩,
    ⟨("statement_reads", none), "statement_reads", "statement_reads", defArgs s_statement_reads, defBody s_statement_reads, defScope s_statement_reads, [], none⟩,
    ⟨("statement_writes", none), "statement_writes", "statement_writes", defArgs s_statement_writes, defBody s_statement_writes, defScope s_statement_writes, [], none⟩,
    ⟨("disturbs", none), "disturbs", "disturbs", defArgs s_disturbs, defBody s_disturbs, defScope s_disturbs, [], none⟩,
    ⟨("swap_step", none), "swap_step", "swap_step", defArgs s_swap_step, defBody s_swap_step, defScope s_swap_step, [], none⟩,
    ⟨("drop_step", none), "drop_step", "drop_step", defArgs s_drop_step, defBody s_drop_step, defScope s_drop_step, [], none⟩]
def fns1 : List HdF.DefF := [
    ⟨("same", none), "same", "same", defArgs s_same, defBody s_same, defScope s_same, [], none⟩,
    ⟨("_law_made", none), "_law_made", "_law_made", defArgs s_law_made, defBody s_law_made, defScope s_law_made, [], none⟩,
    ⟨("_law_parts", none), "_law_parts", "_law_parts", defArgs s_law_parts, defBody s_law_parts, defScope s_law_parts, [], none⟩,
    ⟨("_law_uses", none), "_law_uses", "_law_uses", defArgs s_law_uses, defBody s_law_uses, defScope s_law_uses, [], none⟩,
    ⟨("_law_with", none), "_law_with", "_law_with", defArgs s_law_with, defBody s_law_with, defScope s_law_with, [], none⟩,
    ⟨("_law_proc", none), "_law_proc", "_law_proc", defArgs s_law_proc, defBody s_law_proc, defScope s_law_proc, [], none⟩,
    ⟨("_law_touch", none), "_law_touch", "_law_touch", defArgs s_law_touch, defBody s_law_touch, defScope s_law_touch, [], none⟩,
    ⟨("_law_alike_value", none), "_law_alike_value", "_law_alike_value", defArgs s_law_alike_value, defBody s_law_alike_value, defScope s_law_alike_value, [], none⟩,
    ⟨("_law_alike_block", none), "_law_alike_block", "_law_alike_block", defArgs s_law_alike_block, defBody s_law_alike_block, defScope s_law_alike_block, [], none⟩,
    ⟨("_law_alike", none), "_law_alike", "_law_alike", defArgs s_law_alike, defBody s_law_alike, defScope s_law_alike, [], none⟩,
    ⟨("_law_sunken", none), "_law_sunken", "_law_sunken", defArgs s_law_sunken, defBody s_law_sunken, defScope s_law_sunken, [], none⟩,
    ⟨("_law_tried", none), "_law_tried", "_law_tried", defArgs s_law_tried, defBody s_law_tried, defScope s_law_tried, [], none⟩,
    ⟨("_law_swapped", none), "_law_swapped", "_law_swapped", defArgs s_law_swapped, defBody s_law_swapped, defScope s_law_swapped, [], none⟩,
    ⟨("_law_dropped", none), "_law_dropped", "_law_dropped", defArgs s_law_dropped, defBody s_law_dropped, defScope s_law_dropped, [], none⟩,
    ⟨("law", none), "law", "law", defArgs s_law, defBody s_law, defScope s_law, [], none⟩,
    ⟨("BadStep", some "__init__"), "__init__", "BadStep.__init__", defArgs s_BadStep_init, defBody s_BadStep_init, defScope s_BadStep_init, [], some "BadStep"⟩]
def fns : List HdF.DefF := fns0 ++ (fns1)
def tabs : List He.Tab := [(fun K => He.ga K "FORMS", ["set", "let", "draw", "put", "lot", "ask", "bad"]), (fun K => He.ga K "RULES", ["fold", "swap", "drop", "toss", "shift", "sink", "erase", "spell"])]
def names0 : List PySem.Str := ["__name__", "PlayError", "BadText", "BadCall", "BadPlayer", "BadStep", "BadBound", "TooLarge", "VALUES", "added", "subtracted", "multiplied", "divided", "remainder", "smaller", "same_value", "OPERATIONS", "operator_value", "KEY_WORDS", "LETTERS", "DIGITS", "LONGEST_NAME", "is_name", "OPERATORS", "LOOKS", "FORMS", "MOST_DRAWN", "Game", "first_parts", "every_expression"]
def names1 : List PySem.Str := ["changed_expression", "every_statement", "inner_blocks", "own_expressions", "with_own_expressions", "changed_block", "with_changed_blocks", "with_changed_statements", "fold", "folded", "worked_out", "folded_statement", "BAD", "expression_reads", "statement_reads", "block_reads", "proc_reads", "own_writes", "statement_writes", "disturbs", "reads_local", "spell", "can_spell", "is_look", "spelled", "MOST_BEFORE_TOSS", "EVEN_DRAWS", "require", "proc_of", "statement_of"]
def names2 : List PySem.Str := ["pair_of", "with_proc", "replaced", "fold_step", "swap_step", "drop_step", "toss_step", "shift_step", "is_shift", "sink_step", "erase_step", "rows_of", "spell_step", "RULES", "same", "_law_cell", "_law_is_integer", "_law_row", "_law_side", "_law_value", "_law_plain", "_law_block", "_law_game", "_law_made", "_law_uses", "_law_touch", "_law_with", "_law_proc", "_law_parts", "_law_tried"]
def names3 : List PySem.Str := ["_law_alike", "_law_alike_value", "_law_alike_block", "_law_swapped", "_law_dropped", "_law_sunken"]
def names : List PySem.Str := names0 ++ names1 ++ names2 ++ names3
abbrev hk : PySem.W.Hook := HdF.hookF 7 file0 exs fns tabs
def ob (s : PySem.W.SharedT) : HdF.AlF := HdF.obsFG 7 file0 exs fns tabs (HandSHeadRun.getT s)
theorem ob_eq (s : PySem.W.SharedT) : ob s = hk.obs s.abs := HdF.obsFG_eq (HandSHeadRun.getT_eq s)
/-! ### the facts -/
theorem facts {l : PySem.W.OpenLaw} {w : World} {K : PySem.W.Frag} {h : Heap} {mg : Str → Option Value} {fa : Addr} (hP : PrF l.prog file0) (X : K.In h) (G : h.Ns mainGlobals mg) (hfa : mg "law" = some (.ref fa)) (c : HdF.Says file0 exs fns tabs w K) :
    ∃ fd : FuncData, (∀ (s : Shared) (v : Value), BindsTo s fd ⟨[v], []⟩ [("script", v)]) ∧ ∀ base : Heap, K.In base → base.Ns mainGlobals mg → FnOk l.prog w K mg base CX0 60 fa fd ["script"] (spLaw K) := by
  obtain ⟨_, _, _, _, _, _, _, _, _, l_law_cell, c_law_cell, k_law_cell⟩ := c.plain 0 (p := ("_law_cell", none)) rfl
  obtain ⟨_, _, _, _, _, _, _, _, _, l_law_row, c_law_row, k_law_row⟩ := c.plain 1 (p := ("_law_row", none)) rfl
  obtain ⟨_, _, _, _, _, _, _, _, _, l_law_side, c_law_side, k_law_side⟩ := c.plain 2 (p := ("_law_side", none)) rfl
  obtain ⟨_, _, _, _, _, _, _, _, _, l_law_value, c_law_value, k_law_value⟩ := c.plain 3 (p := ("_law_value", none)) rfl
  obtain ⟨_, _, _, _, _, _, _, _, _, l_law_plain, c_law_plain, k_law_plain⟩ := c.plain 4 (p := ("_law_plain", none)) rfl
  obtain ⟨_, _, _, _, _, _, _, _, _, l_law_block, c_law_block, k_law_block⟩ := c.plain 5 (p := ("_law_block", none)) rfl
  obtain ⟨_, _, _, _, _, _, _, _, _, l_law_game, c_law_game, k_law_game⟩ := c.plain 6 (p := ("_law_game", none)) rfl
  obtain ⟨_, _, _, _, _, _, _, _, _, l_Game_init, c_Game_init, k_Game_init⟩ := c.plain 7 (p := ("Game", some "__init__")) rfl
  obtain ⟨_, _, _, _, _, _, _, _, _, l_Game_eq, c_Game_eq, k_Game_eq⟩ := c.plain 8 (p := ("Game", some "__eq__")) rfl
  obtain ⟨_, _, _, _, _, _, _, _, _, l_Game_proc, c_Game_proc, k_Game_proc⟩ := c.plain 9 (p := ("Game", some "proc")) rfl
  obtain ⟨_, _, _, _, _, _, _, _, _, l_require, c_require, k_require⟩ := c.plain 10 (p := ("require", none)) rfl
  obtain ⟨_, _, _, _, _, _, _, _, _, l_proc_of, c_proc_of, k_proc_of⟩ := c.plain 11 (p := ("proc_of", none)) rfl
  obtain ⟨_, _, _, _, _, _, _, _, _, l_statement_of, c_statement_of, k_statement_of⟩ := c.plain 12 (p := ("statement_of", none)) rfl
  obtain ⟨_, _, _, _, _, _, _, _, _, l_pair_of, c_pair_of, k_pair_of⟩ := c.plain 13 (p := ("pair_of", none)) rfl
  obtain ⟨_, _, _, _, _, _, _, _, _, l_with_proc, c_with_proc, k_with_proc⟩ := c.plain 14 (p := ("with_proc", none)) rfl
  obtain ⟨_, _, _, _, _, _, _, _, _, l_replaced, c_replaced, k_replaced⟩ := c.plain 15 (p := ("replaced", none)) rfl
  obtain ⟨_, _, _, _, _, _, _, _, _, l_every_expression, c_every_expression, k_every_expression⟩ := c.plain 16 (p := ("every_expression", none)) rfl
  obtain ⟨_, _, _, _, _, _, _, _, _, l_expression_reads, c_expression_reads, k_expression_reads⟩ := c.plain 17 (p := ("expression_reads", none)) rfl
  obtain ⟨_, _, _, _, _, _, _, _, _, l_reads_local, c_reads_local, k_reads_local⟩ := c.plain 18 (p := ("reads_local", none)) rfl
  obtain ⟨_, _, _, _, _, _, _, _, _, l_inner_blocks, c_inner_blocks, k_inner_blocks⟩ := c.plain 19 (p := ("inner_blocks", none)) rfl
  obtain ⟨_, _, _, _, _, _, _, _, _, l_every_statement, c_every_statement, k_every_statement⟩ := c.plain 20 (p := ("every_statement", none)) rfl
  obtain ⟨_, _, _, _, _, _, _, _, _, l_own_expressions, c_own_expressions, k_own_expressions⟩ := c.plain 21 (p := ("own_expressions", none)) rfl
  obtain ⟨_, _, _, _, _, _, _, _, _, l_block_reads, c_block_reads, k_block_reads⟩ := c.plain 22 (p := ("block_reads", none)) rfl
  obtain ⟨_, _, _, _, _, _, _, _, _, l_proc_reads, c_proc_reads, k_proc_reads⟩ := c.plain 23 (p := ("proc_reads", none)) rfl
  obtain ⟨_, _, _, _, _, _, _, _, _, l_own_writes, c_own_writes, k_own_writes⟩ := c.plain 24 (p := ("own_writes", none)) rfl
  obtain ⟨_, _, _, _, _, _, _, _, _, l_statement_reads, c_statement_reads, k_statement_reads⟩ := c.plain 25 (p := ("statement_reads", none)) rfl
  obtain ⟨_, _, _, _, _, _, _, _, _, l_statement_writes, c_statement_writes, k_statement_writes⟩ := c.plain 26 (p := ("statement_writes", none)) rfl
  obtain ⟨_, _, _, _, _, _, _, _, _, l_disturbs, c_disturbs, k_disturbs⟩ := c.plain 27 (p := ("disturbs", none)) rfl
  obtain ⟨_, _, _, _, _, _, _, _, _, l_swap_step, c_swap_step, k_swap_step⟩ := c.plain 28 (p := ("swap_step", none)) rfl
  obtain ⟨_, _, _, _, _, _, _, _, _, l_drop_step, c_drop_step, k_drop_step⟩ := c.plain 29 (p := ("drop_step", none)) rfl
  obtain ⟨_, _, _, _, _, _, _, _, _, l_same, c_same, k_same⟩ := c.plain 30 (p := ("same", none)) rfl
  obtain ⟨_, _, _, _, _, _, _, _, _, l_law_made, c_law_made, k_law_made⟩ := c.plain 31 (p := ("_law_made", none)) rfl
  obtain ⟨_, _, _, _, _, _, _, _, _, l_law_parts, c_law_parts, k_law_parts⟩ := c.plain 32 (p := ("_law_parts", none)) rfl
  obtain ⟨_, _, _, _, _, _, _, _, _, l_law_uses, c_law_uses, k_law_uses⟩ := c.plain 33 (p := ("_law_uses", none)) rfl
  obtain ⟨_, _, _, _, _, _, _, _, _, l_law_with, c_law_with, k_law_with⟩ := c.plain 34 (p := ("_law_with", none)) rfl
  obtain ⟨_, _, _, _, _, _, _, _, _, l_law_proc, c_law_proc, k_law_proc⟩ := c.plain 35 (p := ("_law_proc", none)) rfl
  obtain ⟨_, _, _, _, _, _, _, _, _, l_law_touch, c_law_touch, k_law_touch⟩ := c.plain 36 (p := ("_law_touch", none)) rfl
  obtain ⟨_, _, _, _, _, _, _, _, _, l_law_alike_value, c_law_alike_value, k_law_alike_value⟩ := c.plain 37 (p := ("_law_alike_value", none)) rfl
  obtain ⟨_, _, _, _, _, _, _, _, _, l_law_alike_block, c_law_alike_block, k_law_alike_block⟩ := c.plain 38 (p := ("_law_alike_block", none)) rfl
  obtain ⟨_, _, _, _, _, _, _, _, _, l_law_alike, c_law_alike, k_law_alike⟩ := c.plain 39 (p := ("_law_alike", none)) rfl
  obtain ⟨_, _, _, _, _, _, _, _, _, l_law_sunken, c_law_sunken, k_law_sunken⟩ := c.plain 40 (p := ("_law_sunken", none)) rfl
  obtain ⟨_, _, _, _, _, _, _, _, _, l_law_tried, c_law_tried, k_law_tried⟩ := c.plain 41 (p := ("_law_tried", none)) rfl
  obtain ⟨_, _, _, _, _, _, _, _, _, l_law_swapped, c_law_swapped, k_law_swapped⟩ := c.plain 42 (p := ("_law_swapped", none)) rfl
  obtain ⟨_, _, _, _, _, _, _, _, _, l_law_dropped, c_law_dropped, k_law_dropped⟩ := c.plain 43 (p := ("_law_dropped", none)) rfl
  obtain ⟨_, _, _, _, _, _, _, _, _, l_law, c_law, k_law⟩ := c.plain 44 (p := ("law", none)) rfl
  obtain ⟨_, _, _, _, _, _, _, _, _, _, _, _, _, _, _, _, _, _, li_BadStep_init, ci_BadStep_init, di_BadStep_init, vi_BadStep_init, xi_BadStep_init⟩ := c.init 45 (p := ("BadStep", some "__init__")) rfl
  obtain ⟨_, _, _, _, _, _, _, _, _, _, _, _, _, _, _, lc_BadStep_init, rm_BadStep_init⟩ := HdF.vex_ok (show HdF.vexB K (He.ga K "BadStep") = true from (c.get 0 0 rfl))
  obtain ⟨_, its_OPERATORS, _, _, lq_OPERATORS, vl_OPERATORS⟩ := HdF.tup_ok (show HdF.tupAt K (He.ga K "OPERATORS") [.str "+", .str "-", .str "*", .str "/", .str "mod", .str "<", .str "="] = true from (c.get 0 1 rfl))
  obtain ⟨_, _, rfl, vl0_OPERATORS⟩ := HdF.vals_str (x := "+") vl_OPERATORS
  obtain ⟨_, _, rfl, vl1_OPERATORS⟩ := HdF.vals_str (x := "-") vl0_OPERATORS
  obtain ⟨_, _, rfl, vl2_OPERATORS⟩ := HdF.vals_str (x := "*") vl1_OPERATORS
  obtain ⟨_, _, rfl, vl3_OPERATORS⟩ := HdF.vals_str (x := "/") vl2_OPERATORS
  obtain ⟨_, _, rfl, vl4_OPERATORS⟩ := HdF.vals_str (x := "mod") vl3_OPERATORS
  obtain ⟨_, _, rfl, vl5_OPERATORS⟩ := HdF.vals_str (x := "<") vl4_OPERATORS
  obtain ⟨_, _, rfl, vl6_OPERATORS⟩ := HdF.vals_str (x := "=") vl5_OPERATORS
  obtain rfl := HdF.vals_nil vl6_OPERATORS
  obtain ⟨_, its_LOOKS, _, _, lq_LOOKS, vl_LOOKS⟩ := HdF.tup_ok (show HdF.tupAt K (He.ga K "LOOKS") [.str "has", .str "cell"] = true from (c.get 0 2 rfl))
  obtain ⟨_, _, rfl, vl0_LOOKS⟩ := HdF.vals_str (x := "has") vl_LOOKS
  obtain ⟨_, _, rfl, vl1_LOOKS⟩ := HdF.vals_str (x := "cell") vl0_LOOKS
  obtain rfl := HdF.vals_nil vl1_LOOKS
  obtain ⟨_, its_BAD, _, _, lq_BAD, vl_BAD⟩ := HdF.tup_ok (show HdF.tupAt K (He.ga K "BAD") [.str "bad", .str ""] = true from (c.get 0 3 rfl))
  obtain ⟨_, _, rfl, vl0_BAD⟩ := HdF.vals_str (x := "bad") vl_BAD
  obtain ⟨_, _, rfl, vl1_BAD⟩ := HdF.vals_str (x := "") vl0_BAD
  obtain rfl := HdF.vals_nil vl1_BAD
  obtain ⟨es_FORMS, _, ld_FORMS, rm_FORMS, ke_FORMS, re_FORMS⟩ := HdF.dic_ok (c.tab 0 rfl) (show HdF.refsB K (He.ga K "FORMS") = true from (c.get 0 4 rfl))
  obtain ⟨_, _, v0_FORMS, _, rfl, vi_FORMS0, ke0_FORMS, re0_FORMS⟩ := HdF.dic_cons ke_FORMS re_FORMS
  obtain ⟨_, _, v1_FORMS, _, rfl, vi_FORMS1, ke1_FORMS, re1_FORMS⟩ := HdF.dic_cons ke0_FORMS re0_FORMS
  obtain ⟨_, _, v2_FORMS, _, rfl, vi_FORMS2, ke2_FORMS, re2_FORMS⟩ := HdF.dic_cons ke1_FORMS re1_FORMS
  obtain ⟨_, _, v3_FORMS, _, rfl, vi_FORMS3, ke3_FORMS, re3_FORMS⟩ := HdF.dic_cons ke2_FORMS re2_FORMS
  obtain ⟨_, _, v4_FORMS, _, rfl, vi_FORMS4, ke4_FORMS, re4_FORMS⟩ := HdF.dic_cons ke3_FORMS re3_FORMS
  obtain ⟨_, _, v5_FORMS, _, rfl, vi_FORMS5, ke5_FORMS, re5_FORMS⟩ := HdF.dic_cons ke4_FORMS re4_FORMS
  obtain ⟨_, _, v6_FORMS, _, rfl, vi_FORMS6, ke6_FORMS, re6_FORMS⟩ := HdF.dic_cons ke5_FORMS re5_FORMS
  obtain rfl := HdF.dic_nil ke6_FORMS
  have ns_FORMS0 : PySem.W.nsIn K (He.ga K "FORMS") "set" = some (some (.ref v0_FORMS)) := by unfold PySem.W.nsIn; rw [ld_FORMS]; rfl
  have ev_FORMS0 : HdF.valAt K (He.ga K "FORMS") 0 = v0_FORMS := by unfold HdF.valAt; rw [ld_FORMS]; rfl
  obtain ⟨_, _, _, _, lv_FORMS0, vl0_FORMS⟩ := HdF.tup_ok (show HdF.tupAt K (HdF.valAt K (He.ga K "FORMS") 0) [.str "variable", .str "expression"] = true from (c.get 0 5 rfl))
  rw [ev_FORMS0] at lv_FORMS0
  obtain ⟨_, _, rfl, vl0_0_FORMS⟩ := HdF.vals_str (x := "variable") vl0_FORMS
  obtain ⟨_, _, rfl, vl0_1_FORMS⟩ := HdF.vals_str (x := "expression") vl0_0_FORMS
  obtain rfl := HdF.vals_nil vl0_1_FORMS
  have ns_FORMS1 : PySem.W.nsIn K (He.ga K "FORMS") "let" = some (some (.ref v1_FORMS)) := by unfold PySem.W.nsIn; rw [ld_FORMS]; rfl
  have ev_FORMS1 : HdF.valAt K (He.ga K "FORMS") 1 = v1_FORMS := by unfold HdF.valAt; rw [ld_FORMS]; rfl
  obtain ⟨_, _, _, _, lv_FORMS1, vl1_FORMS⟩ := HdF.tup_ok (show HdF.tupAt K (HdF.valAt K (He.ga K "FORMS") 1) [.str "local", .str "expression"] = true from (c.get 0 6 rfl))
  rw [ev_FORMS1] at lv_FORMS1
  obtain ⟨_, _, rfl, vl1_0_FORMS⟩ := HdF.vals_str (x := "local") vl1_FORMS
  obtain ⟨_, _, rfl, vl1_1_FORMS⟩ := HdF.vals_str (x := "expression") vl1_0_FORMS
  obtain rfl := HdF.vals_nil vl1_1_FORMS
  have ns_FORMS2 : PySem.W.nsIn K (He.ga K "FORMS") "draw" = some (some (.ref v2_FORMS)) := by unfold PySem.W.nsIn; rw [ld_FORMS]; rfl
  have ev_FORMS2 : HdF.valAt K (He.ga K "FORMS") 2 = v2_FORMS := by unfold HdF.valAt; rw [ld_FORMS]; rfl
  obtain ⟨_, _, _, _, lv_FORMS2, vl2_FORMS⟩ := HdF.tup_ok (show HdF.tupAt K (HdF.valAt K (He.ga K "FORMS") 2) [.str "local", .str "number"] = true from (c.get 0 7 rfl))
  rw [ev_FORMS2] at lv_FORMS2
  obtain ⟨_, _, rfl, vl2_0_FORMS⟩ := HdF.vals_str (x := "local") vl2_FORMS
  obtain ⟨_, _, rfl, vl2_1_FORMS⟩ := HdF.vals_str (x := "number") vl2_0_FORMS
  obtain rfl := HdF.vals_nil vl2_1_FORMS
  have ns_FORMS3 : PySem.W.nsIn K (He.ga K "FORMS") "put" = some (some (.ref v3_FORMS)) := by unfold PySem.W.nsIn; rw [ld_FORMS]; rfl
  have ev_FORMS3 : HdF.valAt K (He.ga K "FORMS") 3 = v3_FORMS := by unfold HdF.valAt; rw [ld_FORMS]; rfl
  obtain ⟨_, _, _, _, lv_FORMS3, vl3_FORMS⟩ := HdF.tup_ok (show HdF.tupAt K (HdF.valAt K (He.ga K "FORMS") 3) [.str "table", .str "expression", .str "expression"] = true from (c.get 0 8 rfl))
  rw [ev_FORMS3] at lv_FORMS3
  obtain ⟨_, _, rfl, vl3_0_FORMS⟩ := HdF.vals_str (x := "table") vl3_FORMS
  obtain ⟨_, _, rfl, vl3_1_FORMS⟩ := HdF.vals_str (x := "expression") vl3_0_FORMS
  obtain ⟨_, _, rfl, vl3_2_FORMS⟩ := HdF.vals_str (x := "expression") vl3_1_FORMS
  obtain rfl := HdF.vals_nil vl3_2_FORMS
  have ns_FORMS4 : PySem.W.nsIn K (He.ga K "FORMS") "lot" = some (some (.ref v4_FORMS)) := by unfold PySem.W.nsIn; rw [ld_FORMS]; rfl
  have ev_FORMS4 : HdF.valAt K (He.ga K "FORMS") 4 = v4_FORMS := by unfold HdF.valAt; rw [ld_FORMS]; rfl
  obtain ⟨_, _, _, _, lv_FORMS4, vl4_FORMS⟩ := HdF.tup_ok (show HdF.tupAt K (HdF.valAt K (He.ga K "FORMS") 4) [.str "local", .str "lots", .str "expression"] = true from (c.get 0 9 rfl))
  rw [ev_FORMS4] at lv_FORMS4
  obtain ⟨_, _, rfl, vl4_0_FORMS⟩ := HdF.vals_str (x := "local") vl4_FORMS
  obtain ⟨_, _, rfl, vl4_1_FORMS⟩ := HdF.vals_str (x := "lots") vl4_0_FORMS
  obtain ⟨_, _, rfl, vl4_2_FORMS⟩ := HdF.vals_str (x := "expression") vl4_1_FORMS
  obtain rfl := HdF.vals_nil vl4_2_FORMS
  have ns_FORMS5 : PySem.W.nsIn K (He.ga K "FORMS") "ask" = some (some (.ref v5_FORMS)) := by unfold PySem.W.nsIn; rw [ld_FORMS]; rfl
  have ev_FORMS5 : HdF.valAt K (He.ga K "FORMS") 5 = v5_FORMS := by unfold HdF.valAt; rw [ld_FORMS]; rfl
  obtain ⟨_, _, _, _, lv_FORMS5, vl5_FORMS⟩ := HdF.tup_ok (show HdF.tupAt K (HdF.valAt K (He.ga K "FORMS") 5) [.str "local", .str "asked", .str "expression"] = true from (c.get 0 10 rfl))
  rw [ev_FORMS5] at lv_FORMS5
  obtain ⟨_, _, rfl, vl5_0_FORMS⟩ := HdF.vals_str (x := "local") vl5_FORMS
  obtain ⟨_, _, rfl, vl5_1_FORMS⟩ := HdF.vals_str (x := "asked") vl5_0_FORMS
  obtain ⟨_, _, rfl, vl5_2_FORMS⟩ := HdF.vals_str (x := "expression") vl5_1_FORMS
  obtain rfl := HdF.vals_nil vl5_2_FORMS
  have ns_FORMS6 : PySem.W.nsIn K (He.ga K "FORMS") "bad" = some (some (.ref v6_FORMS)) := by unfold PySem.W.nsIn; rw [ld_FORMS]; rfl
  have ev_FORMS6 : HdF.valAt K (He.ga K "FORMS") 6 = v6_FORMS := by unfold HdF.valAt; rw [ld_FORMS]; rfl
  obtain ⟨_, _, _, _, lv_FORMS6, vl6_FORMS⟩ := HdF.tup_ok (show HdF.tupAt K (HdF.valAt K (He.ga K "FORMS") 6) [] = true from (c.get 0 11 rfl))
  rw [ev_FORMS6] at lv_FORMS6
  obtain rfl := HdF.vals_nil vl6_FORMS
  have kd_RULES := He.dicW_ok (c.tab 1 rfl)
  have o_n : PySem.W.specialIn K (.builtin "object.__class__") "__get__" = some (some (.builtin "getset_descriptor.__get__")) := of_decide_eq_true (c.get 0 12 rfl)
  have o_t : PySem.W.takesIn K (.builtin "object.__class__") = some true := of_decide_eq_true (c.get 0 13 rfl)
  have hC_Game : PySem.W.nsIn K mainGlobals "Game" = some (some (.ref (He.ga K "Game"))) := of_decide_eq_true (c.get 0 14 rfl)
  have pg_Game : PySem.W.plainGet K (He.ga K "Game") Str.empty = true := of_decide_eq_true (c.get 0 15 rfl)
  have hd_Game : PySem.W.hasDictIn K (He.ga K "Game") = true := of_decide_eq_true (c.get 0 16 rfl)
  have po_Game : PySem.W.plainOver K (He.ga K "Game") = true := of_decide_eq_true (c.get 0 17 rfl)
  have sa_Game : PySem.W.findIn K (.ref (He.ga K "Game")) "__setattr__" = some (some (.builtin "object.__setattr__")) := of_decide_eq_true (c.get 0 18 rfl)
  have mk_Game : PySem.W.makesIn K (He.ga K "Game") = true := of_decide_eq_true (c.get 0 19 rfl)
  have kc_Game : PySem.W.keepIn K (.ref (He.ga K "Game")) = true := of_decide_eq_true (c.get 0 20 rfl)
  have sf_Game : PySem.W.selfFirst K (He.ga K "Game") = true := of_decide_eq_true (c.get 0 21 rfl)
  have na_Game_variables : PySem.W.findIn K (.ref (He.ga K "Game")) "variables" = some none := of_decide_eq_true (c.get 0 22 rfl)
  have na_Game_tables : PySem.W.findIn K (.ref (He.ga K "Game")) "tables" = some none := of_decide_eq_true (c.get 0 23 rfl)
  have na_Game_lots : PySem.W.findIn K (.ref (He.ga K "Game")) "lots" = some none := of_decide_eq_true (c.get 0 24 rfl)
  have na_Game_procs : PySem.W.findIn K (.ref (He.ga K "Game")) "procs" = some none := of_decide_eq_true (c.get 0 25 rfl)
  have ia_Game : PySem.W.findIn K (.ref (He.ga K "Game")) "__class__" = some (some (.builtin "object.__class__")) := of_decide_eq_true (c.get 0 26 rfl)
  have im_Game : PySem.W.mroIn K (He.ga K "Game") (.type "object") = some true := of_decide_eq_true (c.get 0 27 rfl)
  have ik_Game : PySem.W.kitOne K (.ref (He.ga K "Game")) (.ref (He.ga K "Game")) = some true := of_decide_eq_true (c.get 0 28 rfl)
  have h_law_cell : PySem.W.nsIn K mainGlobals "_law_cell" = some (some (.ref (He.ga K "_law_cell"))) := of_decide_eq_true (c.get 0 29 rfl)
  have h_law_row : PySem.W.nsIn K mainGlobals "_law_row" = some (some (.ref (He.ga K "_law_row"))) := of_decide_eq_true (c.get 0 30 rfl)
  have h_law_side : PySem.W.nsIn K mainGlobals "_law_side" = some (some (.ref (He.ga K "_law_side"))) := of_decide_eq_true (c.get 0 31 rfl)
  have h_law_value : PySem.W.nsIn K mainGlobals "_law_value" = some (some (.ref (He.ga K "_law_value"))) := of_decide_eq_true (c.get 0 32 rfl)
  have h_law_plain : PySem.W.nsIn K mainGlobals "_law_plain" = some (some (.ref (He.ga K "_law_plain"))) := of_decide_eq_true (c.get 0 33 rfl)
  have h_law_block : PySem.W.nsIn K mainGlobals "_law_block" = some (some (.ref (He.ga K "_law_block"))) := of_decide_eq_true (c.get 0 34 rfl)
  have h_law_game : PySem.W.nsIn K mainGlobals "_law_game" = some (some (.ref (He.ga K "_law_game"))) := of_decide_eq_true (c.get 0 35 rfl)
  have h_Game_init : PySem.W.findIn K (.ref (He.ga K "Game")) "__init__" = some (some (.ref (He.ma K (He.ga K "Game") "__init__"))) := of_decide_eq_true (c.get 0 36 rfl)
  have i_Game_init : PySem.W.isFn K (.ref (He.ma K (He.ga K "Game") "__init__")) = true := of_decide_eq_true (c.get 0 37 rfl)
  have h_Game_eq : PySem.W.findIn K (.ref (He.ga K "Game")) "__eq__" = some (some (.ref (He.ma K (He.ga K "Game") "__eq__"))) := of_decide_eq_true (c.get 0 38 rfl)
  have i_Game_eq : PySem.W.isFn K (.ref (He.ma K (He.ga K "Game") "__eq__")) = true := of_decide_eq_true (c.get 0 39 rfl)
  have h_Game_proc : PySem.W.findIn K (.ref (He.ga K "Game")) "proc" = some (some (.ref (He.ma K (He.ga K "Game") "proc"))) := of_decide_eq_true (c.get 1 0 rfl)
  have i_Game_proc : PySem.W.isFn K (.ref (He.ma K (He.ga K "Game") "proc")) = true := of_decide_eq_true (c.get 1 1 rfl)
  have h_require : PySem.W.nsIn K mainGlobals "require" = some (some (.ref (He.ga K "require"))) := of_decide_eq_true (c.get 1 2 rfl)
  have h_proc_of : PySem.W.nsIn K mainGlobals "proc_of" = some (some (.ref (He.ga K "proc_of"))) := of_decide_eq_true (c.get 1 3 rfl)
  have h_statement_of : PySem.W.nsIn K mainGlobals "statement_of" = some (some (.ref (He.ga K "statement_of"))) := of_decide_eq_true (c.get 1 4 rfl)
  have h_pair_of : PySem.W.nsIn K mainGlobals "pair_of" = some (some (.ref (He.ga K "pair_of"))) := of_decide_eq_true (c.get 1 5 rfl)
  have h_with_proc : PySem.W.nsIn K mainGlobals "with_proc" = some (some (.ref (He.ga K "with_proc"))) := of_decide_eq_true (c.get 1 6 rfl)
  have h_replaced : PySem.W.nsIn K mainGlobals "replaced" = some (some (.ref (He.ga K "replaced"))) := of_decide_eq_true (c.get 1 7 rfl)
  have h_every_expression : PySem.W.nsIn K mainGlobals "every_expression" = some (some (.ref (He.ga K "every_expression"))) := of_decide_eq_true (c.get 1 8 rfl)
  have h_expression_reads : PySem.W.nsIn K mainGlobals "expression_reads" = some (some (.ref (He.ga K "expression_reads"))) := of_decide_eq_true (c.get 1 9 rfl)
  have h_reads_local : PySem.W.nsIn K mainGlobals "reads_local" = some (some (.ref (He.ga K "reads_local"))) := of_decide_eq_true (c.get 1 10 rfl)
  have h_inner_blocks : PySem.W.nsIn K mainGlobals "inner_blocks" = some (some (.ref (He.ga K "inner_blocks"))) := of_decide_eq_true (c.get 1 11 rfl)
  have h_every_statement : PySem.W.nsIn K mainGlobals "every_statement" = some (some (.ref (He.ga K "every_statement"))) := of_decide_eq_true (c.get 1 12 rfl)
  have h_own_expressions : PySem.W.nsIn K mainGlobals "own_expressions" = some (some (.ref (He.ga K "own_expressions"))) := of_decide_eq_true (c.get 1 13 rfl)
  have h_block_reads : PySem.W.nsIn K mainGlobals "block_reads" = some (some (.ref (He.ga K "block_reads"))) := of_decide_eq_true (c.get 1 14 rfl)
  have h_proc_reads : PySem.W.nsIn K mainGlobals "proc_reads" = some (some (.ref (He.ga K "proc_reads"))) := of_decide_eq_true (c.get 1 15 rfl)
  have h_own_writes : PySem.W.nsIn K mainGlobals "own_writes" = some (some (.ref (He.ga K "own_writes"))) := of_decide_eq_true (c.get 1 16 rfl)
  have h_statement_reads : PySem.W.nsIn K mainGlobals "statement_reads" = some (some (.ref (He.ga K "statement_reads"))) := of_decide_eq_true (c.get 1 17 rfl)
  have h_statement_writes : PySem.W.nsIn K mainGlobals "statement_writes" = some (some (.ref (He.ga K "statement_writes"))) := of_decide_eq_true (c.get 1 18 rfl)
  have h_disturbs : PySem.W.nsIn K mainGlobals "disturbs" = some (some (.ref (He.ga K "disturbs"))) := of_decide_eq_true (c.get 1 19 rfl)
  have h_swap_step : PySem.W.nsIn K mainGlobals "swap_step" = some (some (.ref (He.ga K "swap_step"))) := of_decide_eq_true (c.get 1 20 rfl)
  have h_drop_step : PySem.W.nsIn K mainGlobals "drop_step" = some (some (.ref (He.ga K "drop_step"))) := of_decide_eq_true (c.get 1 21 rfl)
  have h_same : PySem.W.nsIn K mainGlobals "same" = some (some (.ref (He.ga K "same"))) := of_decide_eq_true (c.get 1 22 rfl)
  have h_law_made : PySem.W.nsIn K mainGlobals "_law_made" = some (some (.ref (He.ga K "_law_made"))) := of_decide_eq_true (c.get 1 23 rfl)
  have h_law_parts : PySem.W.nsIn K mainGlobals "_law_parts" = some (some (.ref (He.ga K "_law_parts"))) := of_decide_eq_true (c.get 1 24 rfl)
  have h_law_uses : PySem.W.nsIn K mainGlobals "_law_uses" = some (some (.ref (He.ga K "_law_uses"))) := of_decide_eq_true (c.get 1 25 rfl)
  have h_law_with : PySem.W.nsIn K mainGlobals "_law_with" = some (some (.ref (He.ga K "_law_with"))) := of_decide_eq_true (c.get 1 26 rfl)
  have h_law_proc : PySem.W.nsIn K mainGlobals "_law_proc" = some (some (.ref (He.ga K "_law_proc"))) := of_decide_eq_true (c.get 1 27 rfl)
  have h_law_touch : PySem.W.nsIn K mainGlobals "_law_touch" = some (some (.ref (He.ga K "_law_touch"))) := of_decide_eq_true (c.get 1 28 rfl)
  have h_law_alike_value : PySem.W.nsIn K mainGlobals "_law_alike_value" = some (some (.ref (He.ga K "_law_alike_value"))) := of_decide_eq_true (c.get 1 29 rfl)
  have h_law_alike_block : PySem.W.nsIn K mainGlobals "_law_alike_block" = some (some (.ref (He.ga K "_law_alike_block"))) := of_decide_eq_true (c.get 1 30 rfl)
  have h_law_alike : PySem.W.nsIn K mainGlobals "_law_alike" = some (some (.ref (He.ga K "_law_alike"))) := of_decide_eq_true (c.get 1 31 rfl)
  have h_law_sunken : PySem.W.nsIn K mainGlobals "_law_sunken" = some (some (.ref (He.ga K "_law_sunken"))) := of_decide_eq_true (c.get 1 32 rfl)
  have h_law_tried : PySem.W.nsIn K mainGlobals "_law_tried" = some (some (.ref (He.ga K "_law_tried"))) := of_decide_eq_true (c.get 1 33 rfl)
  have h_law_swapped : PySem.W.nsIn K mainGlobals "_law_swapped" = some (some (.ref (He.ga K "_law_swapped"))) := of_decide_eq_true (c.get 1 34 rfl)
  have h_law_dropped : PySem.W.nsIn K mainGlobals "_law_dropped" = some (some (.ref (He.ga K "_law_dropped"))) := of_decide_eq_true (c.get 1 35 rfl)
  have h_law : PySem.W.nsIn K mainGlobals "law" = some (some (.ref (He.ga K "law"))) := of_decide_eq_true (c.get 1 36 rfl)
  have hC_BadStep : PySem.W.nsIn K mainGlobals "BadStep" = some (some (.ref (He.ga K "BadStep"))) := of_decide_eq_true (c.get 1 37 rfl)
  have kc_BadStep : PySem.W.keepIn K (.ref (He.ga K "BadStep")) = true := of_decide_eq_true (c.get 1 38 rfl)
  have xb_BadStep : PySem.W.subIn K (.ref (He.ga K "BadStep")) (.type "BaseException") = some true := of_decide_eq_true (c.get 1 39 rfl)
  have xt_BadStep : PySem.W.typeIn K (.ref (He.ga K "BadStep")) = some (.type "type") := of_decide_eq_true (c.get 2 0 rfl)
  have xd_BadStep : PySem.W.hasDictIn K (He.ga K "BadStep") = true := of_decide_eq_true (c.get 2 1 rfl)
  have any_ : PySem.W.nsIn K cStatics "thirdparty.any" = some none := of_decide_eq_true (c.get 2 2 rfl)
  have zn_super : PySem.W.nsIn K mainGlobals "super" = some none := of_decide_eq_true (c.get 2 3 rfl)
  have hi_BadStep_init : PySem.W.findIn K (.ref (He.ga K "BadStep")) "__init__" = some (some (.ref (He.ma K (He.ga K "BadStep") "__init__"))) := of_decide_eq_true (c.get 2 4 rfl)
  have ti_BadStep_init : PySem.W.typeIn K (.ref (He.ma K (He.ga K "BadStep") "__init__")) = some (.type "function") := of_decide_eq_true (c.get 2 5 rfl)
  have si_BadStep_init : PySem.W.ks_superIn K (He.ga K "BadStep") (He.ga K "BadStep") "__init__" = some (some (.builtin "ValueError.__init__")) := of_decide_eq_true (c.get 2 6 rfl)
  have ui_BadStep_init : PySem.W.subIn K (.ref (He.ga K "BadStep")) (.type "ValueError") = some true := of_decide_eq_true (c.get 2 7 rfl)
  have mi_BadStep_init : PySem.W.mroIn K (He.ga K "BadStep") (.ref (He.ga K "BadStep")) = some true := of_decide_eq_true (c.get 2 8 rfl)
  have sa_BadStep_init : PySem.W.findIn K (.ref (He.ga K "BadStep")) "__setattr__" = some (some (.builtin "object.__setattr__")) := of_decide_eq_true (c.get 2 9 rfl)
  have no_BadStep_init : PySem.W.findIn K (.ref (He.ga K "BadStep")) "rule" = some none := of_decide_eq_true (c.get 2 10 rfl)
  have hC_PlayError : PySem.W.nsIn K mainGlobals "PlayError" = some (some (.ref (He.ga K "PlayError"))) := of_decide_eq_true (c.get 2 11 rfl)
  have kc_PlayError : PySem.W.keepIn K (.ref (He.ga K "PlayError")) = true := of_decide_eq_true (c.get 2 12 rfl)
  have xb_PlayError : PySem.W.subIn K (.ref (He.ga K "PlayError")) (.type "BaseException") = some true := of_decide_eq_true (c.get 2 13 rfl)
  have xt_PlayError : PySem.W.typeIn K (.ref (He.ga K "PlayError")) = some (.type "type") := of_decide_eq_true (c.get 2 14 rfl)
  have xd_PlayError : PySem.W.hasDictIn K (He.ga K "PlayError") = true := of_decide_eq_true (c.get 2 15 rfl)
  have hC_BadBound : PySem.W.nsIn K mainGlobals "BadBound" = some (some (.ref (He.ga K "BadBound"))) := of_decide_eq_true (c.get 2 16 rfl)
  have hC_BadCall : PySem.W.nsIn K mainGlobals "BadCall" = some (some (.ref (He.ga K "BadCall"))) := of_decide_eq_true (c.get 2 17 rfl)
  have hC_BadPlayer : PySem.W.nsIn K mainGlobals "BadPlayer" = some (some (.ref (He.ga K "BadPlayer"))) := of_decide_eq_true (c.get 2 18 rfl)
  have hC_BadText : PySem.W.nsIn K mainGlobals "BadText" = some (some (.ref (He.ga K "BadText"))) := of_decide_eq_true (c.get 2 19 rfl)
  have hC_TooLarge : PySem.W.nsIn K mainGlobals "TooLarge" = some (some (.ref (He.ga K "TooLarge"))) := of_decide_eq_true (c.get 2 20 rfl)
  have eg_BadStep : PySem.W.findIn K (.ref (He.ga K "BadStep")) "__getattribute__" = some (some (.builtin "BaseException.__getattribute__")) := of_decide_eq_true (c.get 2 21 rfl)
  have ek_BadStep : PySem.W.findIn K (.ref (He.ga K "BadStep")) "__getattr__" = some none := of_decide_eq_true (c.get 2 22 rfl)
  have ea_BadStep : PySem.W.findIn K (.ref (He.ga K "BadStep")) "__class__" = some (some (.builtin "object.__class__")) := of_decide_eq_true (c.get 2 23 rfl)
  have em_BadStep : PySem.W.mroIn K (He.ga K "BadStep") (.type "object") = some true := of_decide_eq_true (c.get 2 24 rfl)
  have hg_OPERATORS : PySem.W.nsIn K mainGlobals "OPERATORS" = some (some (.ref (He.ga K "OPERATORS"))) := of_decide_eq_true (c.get 2 25 rfl)
  have hg_LOOKS : PySem.W.nsIn K mainGlobals "LOOKS" = some (some (.ref (He.ga K "LOOKS"))) := of_decide_eq_true (c.get 2 26 rfl)
  have hg_BAD : PySem.W.nsIn K mainGlobals "BAD" = some (some (.ref (He.ga K "BAD"))) := of_decide_eq_true (c.get 2 27 rfl)
  have hg_RULES : PySem.W.nsIn K mainGlobals "RULES" = some (some (.ref (He.ga K "RULES"))) := of_decide_eq_true (c.get 2 28 rfl)
  have ns_RULES_0 : PySem.W.nsIn K (He.ga K "RULES") "swap" = some (some (.ref (He.ga K "swap_step"))) := of_decide_eq_true (c.get 2 29 rfl)
  have ns_RULES_1 : PySem.W.nsIn K (He.ga K "RULES") "drop" = some (some (.ref (He.ga K "drop_step"))) := of_decide_eq_true (c.get 2 30 rfl)
  have zn_len : PySem.W.nsIn K mainGlobals "len" = some none := of_decide_eq_true (c.get 2 31 rfl)
  have zn_range : PySem.W.nsIn K mainGlobals "range" = some none := of_decide_eq_true (c.get 2 32 rfl)
  have zn_int : PySem.W.nsIn K mainGlobals "int" = some none := of_decide_eq_true (c.get 2 33 rfl)
  have zn_tuple : PySem.W.nsIn K mainGlobals "tuple" = some none := of_decide_eq_true (c.get 2 34 rfl)
  have zn_list : PySem.W.nsIn K mainGlobals "list" = some none := of_decide_eq_true (c.get 2 35 rfl)
  have zn_isinstance : PySem.W.nsIn K mainGlobals "isinstance" = some none := of_decide_eq_true (c.get 2 36 rfl)
  have zn_abs : PySem.W.nsIn K mainGlobals "abs" = some none := of_decide_eq_true (c.get 2 37 rfl)
  have zn_max : PySem.W.nsIn K mainGlobals "max" = some none := of_decide_eq_true (c.get 2 38 rfl)
  have zn_zip : PySem.W.nsIn K mainGlobals "zip" = some none := of_decide_eq_true (c.get 2 39 rfl)
  have zn_any : PySem.W.nsIn K mainGlobals "any" = some none := of_decide_eq_true (c.get 3 0 rfl)
  have zn_set : PySem.W.nsIn K mainGlobals "set" = some none := of_decide_eq_true (c.get 3 1 rfl)
  have xga_BadStep : PySem.W.findIn K (.ref (He.ga K "BadStep")) "__getattribute__" = some (some (.builtin "BaseException.__getattribute__")) := of_decide_eq_true (c.get 2 21 rfl)
  have xgg_BadStep : PySem.W.findIn K (.ref (He.ga K "BadStep")) "__getattr__" = some none := of_decide_eq_true (c.get 2 22 rfl)
  have sub_sp : PySem.W.subIn K (.ref (He.ga K "BadStep")) (.ref (He.ga K "PlayError")) = some true := of_decide_eq_true (c.get 3 2 rfl)
  have ki_s : PySem.W.kitOne K (.ref (He.ga K "BadStep")) (.ref (He.ga K "BadStep")) = some true := of_decide_eq_true (c.get 3 3 rfl)
  have ki_e : PySem.W.kitAny K (.ref (He.ga K "BadStep")) [.ref (He.ga K "BadBound"), .ref (He.ga K "BadCall"), .ref (He.ga K "BadPlayer"), .ref (He.ga K "BadText"), .ref (He.ga K "TooLarge")] = some false := of_decide_eq_true (c.get 3 4 rfl)
  have hg_FORMS : PySem.W.nsIn K mainGlobals "FORMS" = some (some (.ref (He.ga K "FORMS"))) := of_decide_eq_true (c.get 3 5 rfl)
  exact all_mk X G hfa o_n o_t hC_Game pg_Game hd_Game po_Game sa_Game mk_Game kc_Game sf_Game na_Game_variables na_Game_tables na_Game_lots na_Game_procs ia_Game im_Game ik_Game h_law_cell l_law_cell c_law_cell k_law_cell h_law_row l_law_row c_law_row k_law_row h_law_side l_law_side c_law_side k_law_side h_law_value l_law_value c_law_value k_law_value h_law_plain l_law_plain c_law_plain k_law_plain h_law_block l_law_block c_law_block k_law_block h_law_game l_law_game c_law_game k_law_game h_Game_init i_Game_init l_Game_init c_Game_init k_Game_init h_Game_eq i_Game_eq l_Game_eq c_Game_eq k_Game_eq h_Game_proc i_Game_proc l_Game_proc c_Game_proc k_Game_proc h_require l_require c_require k_require h_proc_of l_proc_of c_proc_of k_proc_of h_statement_of l_statement_of c_statement_of k_statement_of h_pair_of l_pair_of c_pair_of k_pair_of h_with_proc l_with_proc c_with_proc k_with_proc h_replaced l_replaced c_replaced k_replaced h_every_expression l_every_expression c_every_expression k_every_expression h_expression_reads l_expression_reads c_expression_reads k_expression_reads h_reads_local l_reads_local c_reads_local k_reads_local h_inner_blocks l_inner_blocks c_inner_blocks k_inner_blocks h_every_statement l_every_statement c_every_statement k_every_statement h_own_expressions l_own_expressions c_own_expressions k_own_expressions h_block_reads l_block_reads c_block_reads k_block_reads h_proc_reads l_proc_reads c_proc_reads k_proc_reads h_own_writes l_own_writes c_own_writes k_own_writes h_statement_reads l_statement_reads c_statement_reads k_statement_reads h_statement_writes l_statement_writes c_statement_writes k_statement_writes h_disturbs l_disturbs c_disturbs k_disturbs h_swap_step l_swap_step c_swap_step k_swap_step h_drop_step l_drop_step c_drop_step k_drop_step h_same l_same c_same k_same h_law_made l_law_made c_law_made k_law_made h_law_parts l_law_parts c_law_parts k_law_parts h_law_uses l_law_uses c_law_uses k_law_uses h_law_with l_law_with c_law_with k_law_with h_law_proc l_law_proc c_law_proc k_law_proc h_law_touch l_law_touch c_law_touch k_law_touch h_law_alike_value l_law_alike_value c_law_alike_value k_law_alike_value h_law_alike_block l_law_alike_block c_law_alike_block k_law_alike_block h_law_alike l_law_alike c_law_alike k_law_alike h_law_sunken l_law_sunken c_law_sunken k_law_sunken h_law_tried l_law_tried c_law_tried k_law_tried h_law_swapped l_law_swapped c_law_swapped k_law_swapped h_law_dropped l_law_dropped c_law_dropped k_law_dropped h_law l_law c_law k_law hC_BadStep kc_BadStep xb_BadStep xt_BadStep xd_BadStep any_ zn_super hi_BadStep_init ti_BadStep_init li_BadStep_init ci_BadStep_init di_BadStep_init vi_BadStep_init xi_BadStep_init si_BadStep_init ui_BadStep_init mi_BadStep_init lc_BadStep_init rm_BadStep_init sa_BadStep_init no_BadStep_init hC_PlayError kc_PlayError xb_PlayError xt_PlayError xd_PlayError hC_BadBound hC_BadCall hC_BadPlayer hC_BadText hC_TooLarge eg_BadStep ek_BadStep ea_BadStep em_BadStep hg_OPERATORS lq_OPERATORS hg_LOOKS lq_LOOKS hg_BAD lq_BAD hg_RULES kd_RULES ns_RULES_0 ns_RULES_1 zn_len zn_range zn_int zn_tuple zn_list zn_isinstance zn_abs zn_max zn_zip zn_any zn_set xga_BadStep xgg_BadStep sub_sp ki_s ki_e hg_FORMS ld_FORMS rm_FORMS vi_FORMS0 ns_FORMS0 lv_FORMS0 vi_FORMS1 ns_FORMS1 lv_FORMS1 vi_FORMS2 ns_FORMS2 lv_FORMS2 vi_FORMS3 ns_FORMS3 lv_FORMS3 vi_FORMS4 ns_FORMS4 lv_FORMS4 vi_FORMS5 ns_FORMS5 lv_FORMS5 vi_FORMS6 ns_FORMS6 lv_FORMS6 hP
/-! ### the run -/
theorem runF (w : World) : HandSHeadRun.RunEq R (PySem.W.view R.prog [106]) hk ob 20000 names (w.withFollow "special-get-raises" false) := by
  intro os
  kernel_rfl
theorem runT (w : World) : HandSHeadRun.RunEq R (PySem.W.view R.prog [106]) hk ob 20000 names (w.withFollow "special-get-raises" true) := by
  intro os
  kernel_rfl
theorem run (w : World) : HandSHeadRun.RunEq R (PySem.W.view R.prog [106]) hk ob 20000 names w := PySem.W.byRow2 (P := fun w => HandSHeadRun.RunEq R (PySem.W.view R.prog [106]) hk ob 20000 names w) "special-get-raises" runF runT w
end Toy
open PySem PySem.W PySem.Calls PyProof.Rows
set_option maxRecDepth 100000 in
set_option maxHeartbeats 0 in
theorem PySem.Challenge.cw_tellsnone_k41_swapped_and_dropped_statem_holds : PySem.Challenge.rw_tellsnone_k41_swapped_and_dropped_statem.Holds := by
  w_on; o_law
  refine HandSHeadRun.head_any (r := OpenLaw.row PySem.Challenge.rw_tellsnone_k41_swapped_and_dropped_statem) (q := view (OpenLaw.row PySem.Challenge.rw_tellsnone_k41_swapped_and_dropped_statem).prog [106]) (H := Toy.hk) (ob := Toy.ob) (M := 20000) (loose := Toy.names) (d := HandSHeadRun.topDef (OpenLaw.row PySem.Challenge.rw_tellsnone_k41_swapped_and_dropped_statem).prog 106) (kwd := []) Toy.ob_eq
    (by kernel_rfl) (fun s => by kernel_rfl) Toy.run (by kernel_rfl) (by kernel_rfl) (by kernel_rfl) (by rfl) (by first | assumption | decide +kernel) (by decide +kernel) ⟨rfl, rfl, rfl, rfl, rfl, by decide +kernel⟩ ?hw ?hc
  case hw => w_witness2
  case hc =>
    refine L2.walk_ofE (l := PySem.Challenge.rw_tellsnone_k41_swapped_and_dropped_statem) (n := 63) (k := 60) (x := "script") (CX := L2.CX0) rfl (by decide) (by kernel_rfl) ⟨rfl, by decide, by decide⟩ ?F (fun _ _ _ _ z => z)
    intro w mg fa h Y G hmg0
    obtain ⟨K, KX, c⟩ := Y
    have hmg : mg ("law" : PySem.Str) = some (.ref fa) := by
      have e : (HandSHeadRun.topDef (OpenLaw.row PySem.Challenge.rw_tellsnone_k41_swapped_and_dropped_statem).prog 106).name = ("law" : PySem.Str) := by kernel_rfl
      rw [← e]
      exact hmg0
    obtain ⟨fd, hb, hF⟩ := Toy.facts (l := PySem.Challenge.rw_tellsnone_k41_swapped_and_dropped_statem) (w := w) ⟨rfl, rfl⟩ KX G hmg c
    exact ⟨K, fd, Toy.spLaw K, KX, hb, fun H a ns hl _ hS => ⟨a, ns, rfl, hS, hl, fun _ => rfl⟩, hF⟩
