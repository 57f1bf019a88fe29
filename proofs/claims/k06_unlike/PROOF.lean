import PyProof.Rows.All
import Wide.All
import OpenK.AllK
import Wide.FinOn
import HandS.ForExc
import HandS.TupAny
import HandS.OwnEq
import HandS.IsInst
import HandS.ExcIs
import HandS.ExcOwn
import HandS.Wide
import HandS.Gcd
import HandS.FStr
import HandS.Defaults
import HandS.SlotsOwn
import KE.IntTextLaws
import HandS.ForMost
import HandS.Zip
import HandS.Walk
import HandS.Sort
import HandS.RaiseMore
import HandS.Deep
import HandS.Star
import HandS.Dict
import HandS.DictComp
import HandS.TupLen
import HandS.AnyAll
import PyProof.FitsInt
import PySem.Challenge.RW_tellsnone_k06_games_that_are_unlike
import KE.KExcSuper
import KE.KSuper
import KE.KExcMake
import HandS.ExcInit
import HandS.Nested
import PyProof.AutoSeq1
import HandS.HotCalls
import KE.KExcIs
import HandS.ExcField
import KE.KDictList
import HandS.Conv
import KE.KRevSl
import HandS.NestedK
import HandS.Words
import HandS.WordsExc
import KE.KStateDown
import Lean
import HandS.Base
import HandS.Call
import HandS.Exc
import HandS.HeadHook1
import HandS.HeadHook2
import HandS.HeadHook3
import HandS.Head0
import HandS.Head1
import HandS.Head2
import HandS.Head3
import HandS.HeadEnd
import Wide.Once
import HandS.HeadWalk
set_option Elab.async false
set_option linter.all false
set_option maxRecDepth 100000
set_option maxHeartbeats 2000000
/-! Games as data: expressions, statements, blocks, games; how they stand in the heap. -/
namespace Gm
open PySem L2
/-! ### data that stands keeps standing -/
theorem same_new {H : Hp} {p : Addr} (h : H p = none) (o : HO) : Same H (upd H p o) := fun b u q => by rw [upd_ne (ne_of_none q h)]; exact q
theorem sqT_mono {K : PySem.W.Frag} {H H' : Hp} {a : Addr} {xs : List V} (e : Same H H') (h : SqT K H a xs) : SqT K H' a xs := by
  rcases h with (h | ⟨o, h⟩) | h
  · exact .inl (.inl (e _ _ h))
  · exact .inl (.inr ⟨o, e _ _ h⟩)
  · exact .inr h
mutual
theorem dp_mono {K : PySem.W.Frag} {H H' : Hp} (s : Same H H') : ∀ (d : PyData) (v : V), Dp K H v d → Dp K H' v d
  | .none, _, h => by cases h; exact .non
  | .bool b, _, h => by cases h; exact .bl b
  | .int i, _, h => by cases h; exact .int i
  | .str x, _, h => by cases h; exact .str x
  | .list ds, _, h => by
    cases h with
    | lst hs ha => exact .lst (s.seq hs) (dp_monoAll s ds _ ha)
  | .tuple ds, _, h => by
    cases h with
    | tup hs ha => exact .tup (sqT_mono s hs) (dp_monoAll s ds _ ha)
  | .dict _, _, h => by cases h
theorem dp_monoAll {K : PySem.W.Frag} {H H' : Hp} (s : Same H H') : ∀ (ds : List PyData) (vs : List V), DpAll K H vs ds → DpAll K H' vs ds
  | [], _, h => by cases h; exact .nil
  | d :: ds, _, h => by
    cases h with
    | cons h1 h2 => exact .cons (dp_mono s d _ h1) (dp_monoAll s ds _ h2)
end
section
variable {K : PySem.W.Frag} {H : Hp}
theorem DpAll.len : ∀ {vs : List V} {ds : List PyData}, DpAll K H vs ds → vs.length = ds.length
  | _, _, .nil => rfl
  | _, _, .cons _ t => congrArg Nat.succ (DpAll.len t)
theorem DpAll.app : ∀ {vs ws : List V} {ds es : List PyData}, DpAll K H vs ds → DpAll K H ws es → DpAll K H (vs ++ ws) (ds ++ es)
  | _, _, _, _, .nil, q => q
  | _, _, _, _, .cons h t, q => .cons h (DpAll.app t q)
theorem DpAll.get : ∀ {vs : List V} {ds : List PyData} {i : Nat} {d : PyData}, DpAll K H vs ds → ds[i]? = some d → ∃ v, vs[i]? = some v ∧ Dp K H v d
  | _, _, _, _, .nil, e => by simp at e
  | _, _, 0, _, .cons h _, e => by simp at e; subst e; exact ⟨_, rfl, h⟩
  | _, _, i + 1, _, .cons _ t, e => by
    obtain ⟨v, h1, h2⟩ := DpAll.get (i := i) t (by simpa using e)
    exact ⟨v, by simpa using h1, h2⟩
theorem dp_strs : ∀ xs : List Str, DpAll K H (xs.map V.str) (xs.map PyData.str)
  | [] => .nil
  | x :: xs => .cons (.str x) (dp_strs xs)
/-- a new tuple of data -/
theorem dp_tup {p : Addr} {vs : List V} {ds : List PyData} (hp : H p = none) (h : DpAll K H vs ds) : Dp K (upd H p (.tup vs)) (.ref p) (.tuple ds) := .tup (SqT.of upd_same) (dp_monoAll (same_new hp _) _ _ h)
end
/-! ### rules whose written part is named (within comprehensions) -/
section
variable {X : Cx}
theorem ixlK (K : PySem.W.Frag) (h : X.K = K) : IxR X (rIxL K) := by subst h; exact ix_list
theorem ixtK (K : PySem.W.Frag) (h : X.K = K) : IxR X (rIxT K) := by subst h; exact ix_tup
theorem lenK (K : PySem.W.Frag) (h : X.K = K) : CallR X (.builtin "len") (fun xs H Q => ∃ p ys, xs = [.ref p] ∧ (SqL K H p ys ∨ SqT K H p ys) ∧ Q (.int ys.length) H) := by subst h; exact call_len_seq
theorem inK (K : PySem.W.Frag) (h : X.K = K) : OpR X (compareOp .In) (rIn K false) := by subst h; exact op_in_seq
theorem eqDK (K : PySem.W.Frag) (h : X.K = K) (hu : X.A.units + 64 < cLine) : OpR X (compareOp .Eq) (rEqD K) := by subst h; exact op_eqD hu
theorem neDK (K : PySem.W.Frag) (h : X.K = K) (hu : X.A.units + 64 < cLine) : OpR X (compareOp .NotEq) (rNeD K) := by subst h; exact op_neD hu
theorem slLK (K : PySem.W.Frag) (h : X.K = K) : SlR X (rSlL K) := by subst h; exact sl_list
theorem slTK (K : PySem.W.Frag) (h : X.K = K) : SlR X (rSlA K) := by subst h; exact sl_tupA
end
/-! ### data without lists: it stands as long as the tuples stand -/
mutual
def nol : PyData → Bool
  | .list _ => false
  | .dict _ => false
  | .tuple ds => nolAll ds
  | _ => true
def nolAll : List PyData → Bool
  | [] => true
  | d :: ds => nol d && nolAll ds
end
theorem nolAll_app : ∀ (xs ys : List PyData), nolAll (xs ++ ys) = (nolAll xs && nolAll ys)
  | [], ys => by show nolAll ys = (nolAll [] && nolAll ys); unfold nolAll; rw [Bool.true_and]; all_goals rfl
  | x :: xs, ys => by show (nol x && nolAll (xs ++ ys)) = ((nol x && nolAll xs) && nolAll ys); rw [nolAll_app xs ys, Bool.and_assoc]
theorem nolAll_strs : ∀ xs : List Str, nolAll (xs.map PyData.str) = true
  | [] => rfl
  | x :: xs => by show (nol (.str x) && nolAll (xs.map PyData.str)) = true; rw [nolAll_strs xs]; rfl
/-- tuples and what is locked stand -/
def Tups (H H' : Hp) : Prop := ∀ b o, H b = some o → ((∃ xs, o = .tup xs) ∨ ∃ ob u, o = .frz ob u) → H' b = some o
theorem Tups.of {H H' : Hp} (s : Same H H') : Tups H H' := fun b o e _ => s b o e
theorem Tups.refl (H : Hp) : Tups H H := fun _ _ e _ => e
theorem Tups.trans {H H1 H2 : Hp} (a : Tups H H1) (b : Tups H1 H2) : Tups H H2 := fun c o e k => b c o (a c o e k) k
theorem Tups.lst {H : Hp} {l : Addr} {xs : List V} {o : HO} (h : H l = some (.lst xs)) : Tups H (upd H l o) := fun b u e k => by
  rw [upd_ne]
  · exact e
  · intro z
    subst z
    rw [h] at e
    cases e
    rcases k with ⟨_, z⟩ | ⟨_, _, z⟩ <;> cases z
theorem sqT_tups {K : PySem.W.Frag} {H H' : Hp} {a : Addr} {xs : List V} (e : Tups H H') (h : SqT K H a xs) : SqT K H' a xs := by
  rcases h with (h | ⟨o, h⟩) | h
  · exact .inl (.inl (e _ _ h (.inl ⟨_, rfl⟩)))
  · exact .inl (.inr ⟨o, e _ _ h (.inr ⟨_, _, rfl⟩)⟩)
  · exact .inr h
mutual
theorem dp_tups {K : PySem.W.Frag} {H H' : Hp} (s : Tups H H') : ∀ (d : PyData) (v : V), nol d = true → Dp K H v d → Dp K H' v d
  | .none, _, _, h => by cases h; exact .non
  | .bool b, _, _, h => by cases h; exact .bl b
  | .int i, _, _, h => by cases h; exact .int i
  | .str x, _, _, h => by cases h; exact .str x
  | .list ds, _, n, h => by unfold nol at n; cases n
  | .tuple ds, _, n, h => by
    unfold nol at n
    cases h with
    | tup hs ha => exact .tup (sqT_tups s hs) (dp_tupsAll s ds _ n ha)
  | .dict _, _, _, h => by cases h
theorem dp_tupsAll {K : PySem.W.Frag} {H H' : Hp} (s : Tups H H') : ∀ (ds : List PyData) (vs : List V), nolAll ds = true → DpAll K H vs ds → DpAll K H' vs ds
  | [], _, _, h => by cases h; exact .nil
  | d :: ds, _, n, h => by
    unfold nolAll at n
    rw [Bool.and_eq_true] at n
    cases h with
    | cons h1 h2 => exact .cons (dp_tups s d _ n.1 h1) (dp_tupsAll s ds _ n.2 h2)
end
/-! ### expressions and statements -/
inductive Ex where
  | num (n : Int) | loc (x : Str) | var (x : Str) | has (t : Str) (e : Ex) | cell (t : Str) (e : Ex) | op (o : Str) (a b : Ex)
mutual
inductive Stm where
  | set (x : Str) (e : Ex) | lt (l : Str) (e : Ex) | draw (l : Str) (n : Int) | put (t : Str) (e f : Ex) | lot (l o : Str) (e : Ex) | ask (l p : Str) (e : Ex) | ite (e : Ex) (a b : Blk) | bad | after (a : Blk)
inductive Blk where
  | nil | cons (s : Stm) (r : Blk)
end
def Ex.d : Ex → PyData
  | .num n => .tuple [.str "number", .int n]
  | .loc x => .tuple [.str "local", .str x]
  | .var x => .tuple [.str "variable", .str x]
  | .has t e => .tuple [.str "has", .str t, e.d]
  | .cell t e => .tuple [.str "cell", .str t, e.d]
  | .op o a b => .tuple [.str o, a.d, b.d]
mutual
def Stm.d : Stm → PyData
  | .set x e => .tuple [.str "set", .str x, e.d]
  | .lt l e => .tuple [.str "let", .str l, e.d]
  | .draw l n => .tuple [.str "draw", .str l, .int n]
  | .put t e f => .tuple [.str "put", .str t, e.d, f.d]
  | .lot l o e => .tuple [.str "lot", .str l, .str o, e.d]
  | .ask l p e => .tuple [.str "ask", .str l, .str p, e.d]
  | .ite e a b => .tuple [.str "if", e.d, .tuple a.ds, .tuple b.ds]
  | .bad => .tuple [.str "bad"]
  | .after a => .tuple [.str "after", .tuple a.ds]
def Blk.ds : Blk → List PyData
  | .nil => []
  | .cons s r => s.d :: r.ds
end
def Blk.d (b : Blk) : PyData := .tuple b.ds
theorem Ex.nol : ∀ e : Ex, nol e.d = true
  | .num n => rfl
  | .loc x => rfl
  | .var x => rfl
  | .has t e => by show (Gm.nol (.str "has") && (Gm.nol (.str t) && (Gm.nol e.d && nolAll []))) = true; rw [Ex.nol e]; rfl
  | .cell t e => by show (Gm.nol (.str "cell") && (Gm.nol (.str t) && (Gm.nol e.d && nolAll []))) = true; rw [Ex.nol e]; rfl
  | .op o a b => by show (Gm.nol (.str o) && (Gm.nol a.d && (Gm.nol b.d && nolAll []))) = true; rw [Ex.nol a, Ex.nol b]; rfl
mutual
theorem Stm.nol : ∀ x : Stm, nol x.d = true
  | .set x e => by unfold Stm.d; show (Gm.nol (.str "set") && (Gm.nol (.str x) && (Gm.nol e.d && nolAll []))) = true; rw [Ex.nol e]; rfl
  | .lt x e => by unfold Stm.d; show (Gm.nol (.str "let") && (Gm.nol (.str x) && (Gm.nol e.d && nolAll []))) = true; rw [Ex.nol e]; rfl
  | .draw l n => by unfold Stm.d; rfl
  | .put t e f => by unfold Stm.d; show (Gm.nol (.str "put") && (Gm.nol (.str t) && (Gm.nol e.d && (Gm.nol f.d && nolAll [])))) = true; rw [Ex.nol e, Ex.nol f]; rfl
  | .lot l o e => by unfold Stm.d; show (Gm.nol (.str "lot") && (Gm.nol (.str l) && (Gm.nol (.str o) && (Gm.nol e.d && nolAll [])))) = true; rw [Ex.nol e]; rfl
  | .ask l p e => by unfold Stm.d; show (Gm.nol (.str "ask") && (Gm.nol (.str l) && (Gm.nol (.str p) && (Gm.nol e.d && nolAll [])))) = true; rw [Ex.nol e]; rfl
  | .ite e a b => by unfold Stm.d; show (Gm.nol (.str "if") && (Gm.nol e.d && (nolAll a.ds && (nolAll b.ds && nolAll [])))) = true; rw [Ex.nol e, Blk.nol a, Blk.nol b]; rfl
  | .bad => by unfold Stm.d; rfl
  | .after a => by unfold Stm.d; show (Gm.nol (.str "after") && (nolAll a.ds && nolAll [])) = true; rw [Blk.nol a]; rfl
theorem Blk.nol : ∀ b : Blk, nolAll b.ds = true
  | .nil => by unfold Blk.ds; rfl
  | .cons s r => by unfold Blk.ds; show (Gm.nol s.d && nolAll r.ds) = true; rw [Stm.nol s, Blk.nol r]; rfl
end
def Blk.of : List Stm → Blk
  | [] => .nil
  | s :: r => .cons s (Blk.of r)
def Blk.app : Blk → Blk → Blk
  | .nil, c => c
  | .cons s r, c => .cons s (r.app c)
theorem Blk.ds_app : ∀ (b c : Blk), (b.app c).ds = b.ds ++ c.ds
  | .nil, c => by rw [Blk.app, Blk.ds]; rfl
  | .cons s r, c => by rw [Blk.app, Blk.ds, Blk.ds, Blk.ds_app r c]; rfl
def Ex.dep : Ex → Nat
  | .num _ => 1
  | .loc _ => 1
  | .var _ => 1
  | .has _ e => e.dep + 1
  | .cell _ e => e.dep + 1
  | .op _ a b => max a.dep b.dep + 1
/-! the depth of ifs and afters, 0 without -/
mutual
def Stm.dep : Stm → Nat
  | .ite _ a b => max a.dep b.dep + 1
  | .after a => a.dep + 1
  | _ => 0
def Blk.dep : Blk → Nat
  | .nil => 0
  | .cons s r => max s.dep r.dep
end
def ops : List Str := ["+", "-", "*", "/", "mod", "<", "="]
/-- the names in scope -/
structure Sc where
  locs : List Str
  vars : List Str
  tabs : List Str
  lots : List Str
  asks : List Str
/-- an expression over the names of a scope, at most k deep -/
def Ex.Ok (s : Sc) : Nat → Ex → Prop
  | 0, _ => False
  | _ + 1, .num n => 0 ≤ n ∧ n ≤ 65535
  | _ + 1, .loc x => x ∈ s.locs
  | _ + 1, .var x => x ∈ s.vars
  | k + 1, .has t e => t ∈ s.tabs ∧ e.Ok s k
  | k + 1, .cell t e => t ∈ s.tabs ∧ e.Ok s k
  | k + 1, .op o a b => o ∈ ops ∧ a.Ok s k ∧ b.Ok s k
theorem Ex.Ok.mono {s : Sc} : ∀ {k j : Nat} {e : Ex}, e.Ok s k → k ≤ j → e.Ok s j
  | 0, _, _, h, _ => h.elim
  | _ + 1, 0, _, _, hj => absurd hj (by omega)
  | _ + 1, _ + 1, .num _, h, _ => h
  | _ + 1, _ + 1, .loc _, h, _ => h
  | _ + 1, _ + 1, .var _, h, _ => h
  | k + 1, j + 1, .has _ _, h, hj => ⟨h.1, h.2.mono (by omega)⟩
  | k + 1, j + 1, .cell _ _, h, hj => ⟨h.1, h.2.mono (by omega)⟩
  | k + 1, j + 1, .op _ _ _, h, hj => ⟨h.1, h.2.1.mono (by omega), h.2.2.mono (by omega)⟩
/-! how many statements -/
def Blk.len : Blk → Nat
  | .nil => 0
  | .cons _ r => r.len + 1
/-! a statement over a scope: expressions at most k deep, ifs and afters at most d deep -/
mutual
def Stm.Ok (s : Sc) (k : Nat) : Nat → Stm → Prop
  | _, .set x e => x ∈ s.vars ∧ e.Ok s k
  | _, .lt l e => l ∈ s.locs ∧ e.Ok s k
  | _, .draw l n => l ∈ s.locs ∧ 1 ≤ n ∧ n ≤ 64
  | _, .put t e f => t ∈ s.tabs ∧ e.Ok s k ∧ f.Ok s k
  | _, .lot l o e => l ∈ s.locs ∧ o ∈ s.lots ∧ e.Ok s k
  | _, .ask l p e => l ∈ s.locs ∧ p ∈ s.asks ∧ e.Ok s k
  | 0, .ite _ _ _ => False
  | d + 1, .ite e a b => e.Ok s k ∧ a.Ok s k d ∧ b.Ok s k d ∧ a.len ≤ 4 ∧ b.len ≤ 4
  | _, .bad => True
  | 0, .after _ => False
  | d + 1, .after a => a.Ok s k d ∧ a.len ≤ 4
def Blk.Ok (s : Sc) (k : Nat) : Nat → Blk → Prop
  | _, .nil => True
  | d, .cons x r => x.Ok s k d ∧ r.Ok s k d
end
theorem Blk.len_ds : ∀ b : Blk, b.ds.length = b.len
  | .nil => by rw [Blk.ds]; rfl
  | .cons s r => by rw [Blk.ds, Blk.len, List.length_cons, Blk.len_ds r]
theorem Blk.len_app : ∀ (b c : Blk), (b.app c).len = b.len + c.len
  | .nil, c => by rw [Blk.app, Blk.len, Nat.zero_add]
  | .cons s r, c => by rw [Blk.app, Blk.len, Blk.len, Blk.len_app r c]; omega
theorem Blk.ok_app {s : Sc} {k d : Nat} : ∀ {b c : Blk}, b.Ok s k d → c.Ok s k d → (b.app c).Ok s k d
  | .nil, c, _, h => by rw [Blk.app]; exact h
  | .cons x r, c, h1, h2 => by
    rw [Blk.app]
    unfold Blk.Ok at h1 ⊢
    exact ⟨h1.1, Blk.ok_app h1.2 h2⟩
/-! ### picks -/
theorem pick_mem {xs : List Str} {r : Int} (h : xs ≠ []) : ∃ x ∈ xs, atI (xs.map V.str) (r % (((xs.map V.str).length : Nat) : Int)) = some (.str x) := by
  have hl : 0 < xs.length := List.length_pos_iff.mpr h
  rw [List.length_map]
  have h0 := Int.emod_nonneg r (by omega : (xs.length : Int) ≠ 0)
  have h1 := Int.emod_lt_of_pos r (by omega : (0 : Int) < xs.length)
  have hk : (r % (xs.length : Int)).toNat < xs.length := by omega
  refine ⟨xs[(r % (xs.length : Int)).toNat], List.getElem_mem hk, ?_⟩
  exact at_of (j := (r % (xs.length : Int)).toNat) (by omega) (by rw [List.getElem?_map, List.getElem?_eq_getElem hk] <;> rfl)
theorem len_pos {xs : List Str} (h : xs ≠ []) : (0 : Int) < (((xs.map V.str).length : Nat) : Int) := by
  rw [List.length_map]
  have := List.length_pos_iff.mpr h
  omega
/-- an item of a written display, whatever the rest -/
theorem pick_disp {vs : List V} {r : Int} {n : Nat} (hn : vs.length = n) (h : 0 < n) : ∃ x ∈ vs, atI vs (r % (n : Int)) = some x := by
  subst hn
  have h0 := Int.emod_nonneg r (by omega : (vs.length : Int) ≠ 0)
  have h1 := Int.emod_lt_of_pos r (by omega : (0 : Int) < vs.length)
  have hk : (r % (vs.length : Int)).toNat < vs.length := by omega
  exact ⟨vs[(r % (vs.length : Int)).toNat], List.getElem_mem hk, at_of (j := (r % (vs.length : Int)).toNat) (by omega) (List.getElem?_eq_getElem hk)⟩
theorem pick_op {r : Int} : ∃ o ∈ ops, atI ([.str "+", .str "-", .str "*", .str "/", .str "mod", .str "<", .str "="] : List V) (r % 7) = some (.str o) := by
  obtain ⟨x, hx, e⟩ := pick_mem (xs := ops) (r := r) (by decide)
  exact ⟨x, hx, e⟩
theorem pick_two {a b : V} {r : Int} : atI ([a, b] : List V) (r % 2) = some a ∨ atI ([a, b] : List V) (r % 2) = some b := by
  have h0 := Int.emod_nonneg r (by decide : (2 : Int) ≠ 0)
  have h1 := Int.emod_lt_of_pos r (by decide : (0 : Int) < 2)
  have : r % 2 = 0 ∨ r % 2 = 1 := by omega
  rcases this with e | e
  · rw [e]; exact .inl rfl
  · rw [e]; exact .inr rfl
theorem and_if {c A B T1 : Prop} [Decidable c] (hB : B) (hT : c → B → T1) : if c then T1 else (if false = true then A else B) := by
  by_cases h : c
  · rw [if_pos h]; exact hT h hB
  · rw [if_neg h, if_neg Bool.false_ne_true]; exact hB
theorem ne_of_len {xs : List Str} (h : decide ((0 : Int) < (((xs.map V.str).length : Nat) : Int)) = true) : xs ≠ [] := by
  intro e
  subst e
  exact absurd (of_decide_eq_true h) (by decide)
/-- an if without an else: what holds behind it, both ways -/
theorem if_rest {b A : Prop} [Decidable b] {D : Ends} {σ : L2.St} {H : Hp} (I : L2.St → Hp → Prop) (rest : ∀ σ H, I σ H → D.nx σ H) (ht : b → (∀ σ H, I σ H → D.nx σ H) → A) (he : ¬ b → I σ H) : if b then A else tNext D σ H := by
  by_cases h : b
  · rw [if_pos h]; exact ht h rest
  · rw [if_neg h]; exact rest σ H (he h)
theorem Blk.ok_nil {s : Sc} {k d : Nat} : Blk.nil.Ok s k d := by unfold Blk.Ok; trivial
theorem Blk.ok_cons {s : Sc} {k d : Nat} {x : Stm} {r : Blk} (h : x.Ok s k d) (hr : r.Ok s k d) : (Blk.cons x r).Ok s k d := by unfold Blk.Ok; exact ⟨h, hr⟩
/-- a block that stands within a statement: few statements -/
def Blk.OkI (b : Blk) (s : Sc) (k d : Nat) : Prop := b.Ok s k d ∧ b.len ≤ 4
theorem Blk.oki {s : Sc} {k d : Nat} {b : Blk} (h : b.Ok s k d) (hl : Nat.ble b.len 4 = true := by rfl) : b.OkI s k d := ⟨h, Nat.le_of_ble_eq_true hl⟩
theorem Stm.ok_ite {s : Sc} {k d : Nat} {e : Ex} {a b : Blk} (h : e.Ok s k) (ha : a.OkI s k d) (hb : b.OkI s k d) : (Stm.ite e a b).Ok s k (d + 1) := by unfold Stm.Ok; exact ⟨h, ha.1, hb.1, by have := ha.2; omega, by have := hb.2; omega⟩
theorem Stm.ok_after {s : Sc} {k d : Nat} {a : Blk} (ha : a.OkI s k d) : (Stm.after a).Ok s k (d + 1) := by unfold Stm.Ok; exact ⟨ha.1, by have := ha.2; omega⟩
theorem Stm.ok_bad {s : Sc} {k d : Nat} : Stm.bad.Ok s k d := by cases d <;> (unfold Stm.Ok; trivial)
mutual
theorem Stm.ok_mono {s : Sc} {k : Nat} : ∀ {d e : Nat} {x : Stm}, x.Ok s k d → d ≤ e → x.Ok s k e
  | d, e, .set _ _, h, _ => by unfold Stm.Ok at h ⊢; exact h
  | d, e, .lt _ _, h, _ => by unfold Stm.Ok at h ⊢; exact h
  | d, e, .draw _ _, h, _ => by unfold Stm.Ok at h ⊢; exact h
  | d, e, .put _ _ _, h, _ => by unfold Stm.Ok at h ⊢; exact h
  | d, e, .lot _ _ _, h, _ => by unfold Stm.Ok at h ⊢; exact h
  | d, e, .ask _ _ _, h, _ => by unfold Stm.Ok at h ⊢; exact h
  | d, e, .bad, _, _ => Stm.ok_bad
  | 0, e, .ite _ _ _, h, _ => by unfold Stm.Ok at h; exact h.elim
  | d + 1, 0, .ite _ _ _, h, he => absurd he (by omega)
  | d + 1, e + 1, .ite _ _ _, h, he => by unfold Stm.Ok at h ⊢; exact ⟨h.1, Blk.ok_mono h.2.1 (by omega), Blk.ok_mono h.2.2.1 (by omega), h.2.2.2⟩
  | 0, e, .after _, h, _ => by unfold Stm.Ok at h; exact h.elim
  | d + 1, 0, .after _, h, he => absurd he (by omega)
  | d + 1, e + 1, .after _, h, he => by unfold Stm.Ok at h ⊢; exact ⟨Blk.ok_mono h.1 (by omega), h.2⟩
theorem Blk.ok_mono {s : Sc} {k : Nat} : ∀ {d e : Nat} {b : Blk}, b.Ok s k d → d ≤ e → b.Ok s k e
  | d, e, .nil, _, _ => Blk.ok_nil
  | d, e, .cons x r, h, he => by unfold Blk.Ok at h ⊢; exact ⟨Stm.ok_mono h.1 he, Blk.ok_mono h.2 he⟩
end
/-! ### a list of data that grows -/
structure Acc (K : PySem.W.Frag) (H0 H : Hp) (l : Addr) (vs : List V) (ds : List PyData) : Prop where
  s : Same H0 H
  f : H0 l = none
  l : H l = some (.lst vs)
  d : DpAll K H vs ds
  n : nolAll ds = true
section
variable {K : PySem.W.Frag} {H0 H H' : Hp} {l : Addr} {vs : List V} {ds : List PyData} {v : V} {d : PyData}
theorem Acc.start (h : H0 l = none) : Acc K H0 (upd H0 l (.lst [])) l [] [] := ⟨same_new h _, h, upd_same, .nil, rfl⟩
theorem Acc.grow (a : Acc K H0 H l vs ds) (e : Same H H') : Acc K H0 H' l vs ds := ⟨a.s.trans e, a.f, e _ _ a.l, dp_monoAll e _ _ a.d, a.n⟩
theorem Acc.add (a : Acc K H0 H l vs ds) (hd : Dp K H v d) (hn : nol d = true) : Acc K H0 (upd H l (.lst (vs ++ [v]))) l (vs ++ [v]) (ds ++ [d]) := by
  have tp : Tups H (upd H l (.lst (vs ++ [v]))) := Tups.lst a.l
  refine ⟨fun b o e => by rw [upd_ne (ne_of_none e a.f)]; exact a.s _ _ e, a.f, upd_same, DpAll.app (dp_tupsAll tp _ _ a.n a.d) (.cons (dp_tups tp _ _ hn hd) .nil), ?_⟩
  rw [nolAll_app, a.n]
  show (true && (nol d && nolAll [])) = true
  rw [hn]
  rfl
theorem Acc.len (a : Acc K H0 H l vs ds) : vs.length = ds.length := DpAll.len a.d
end
/-! ### a slice of a tuple, whichever it is -/
def rSlB (K : PySem.W.Frag) : V → Option Int → Option Int → Hp → VK → Prop := fun x lo hi H Q => ∃ a xs, x = .ref a ∧ SqT K H a xs ∧ ∀ p H', Same H H' → SqT K H' p (cutV xs lo hi) → Q (.ref p) H'
theorem slTB {X : Cx} (K : PySem.W.Frag) (h : X.K = K) : SlR X (rSlB K) := by
  subst h
  intro pins s σ H x v vl vu lo hi sl Q I rx hs pl pu h
  obtain ⟨a, xs, rfl, hx, q⟩ := h
  refine sl_tupA pins s σ H _ v vl vu lo hi sl Q I rx hs pl pu ⟨a, xs, rfl, hx, fun w => q a H (Same.refl _) ?_, fun _ p hp => q p _ (same_new hp _) (SqT.of upd_same)⟩
  have e : cutV xs lo hi = xs := by
    unfold cutV
    rw [w.1, w.2, List.drop_zero, Nat.sub_zero, List.take_length]
  rw [e]
  exact hx
theorem cut3 {r : Int} (h0 : 0 ≤ r) (h1 : r < 2) : cutV [.str "g", .str "a", .str "b"] none (some (2 + r)) = ([("g" : Str), "a"]).map V.str ∨ cutV [.str "g", .str "a", .str "b"] none (some (2 + r)) = ([("g" : Str), "a", "b"]).map V.str := by
  have : r = 0 ∨ r = 1 := by omega
  rcases this with rfl | rfl
  · exact .inl rfl
  · exact .inr rfl
theorem take_more {α : Type} : ∀ {l : List α} {i : Nat} {x : α}, l[i]? = some x → l.take (i + 1) = l.take i ++ [x]
  | [], i, x, h => by simp at h
  | a :: l, 0, x, h => by
    have e : a = x := Option.some.inj h
    subst e
    rfl
  | a :: l, i + 1, x, h => by
    have ih := take_more (l := l) (i := i) (x := x) h
    show a :: l.take (i + 1) = a :: l.take i ++ [x]
    rw [ih]
    rfl
theorem str_at {xs : List Str} {i : Nat} (h : i < (((xs.map V.str).length : Nat) : Int).toNat) : ∃ x, xs[i]? = some x ∧ atI (xs.map V.str) (0 + (i : Int)) = some (.str x) := by
  rw [List.length_map] at h
  have hi : i < xs.length := by omega
  exact ⟨xs[i], List.getElem?_eq_getElem hi, at_of (j := i) (by omega) (by rw [List.getElem?_map, List.getElem?_eq_getElem hi] <;> rfl)⟩
/-! ### games -/
structure Pr where
  name : Str
  size : Int
  ans : Int
  locs : List Str
  block : Blk
  res : Ex
structure Ga where
  vars : List (Str × Int × Int)
  tabs : List (Str × Int × Int)
  lots : List (Str × Int × Int)
  procs : List Pr
def trip (t : Str × Int × Int) : PyData := .tuple [.str t.1, .int t.2.1, .int t.2.2]
def strD (xs : List Str) : PyData := .tuple (xs.map PyData.str)
def Pr.d (p : Pr) : PyData := .tuple [.str p.name, .int p.size, .int p.ans, strD p.locs, p.block.d, p.res.d]
def trips (ts : List (Str × Int × Int)) : PyData := .tuple (ts.map trip)
def Ga.d (g : Ga) : PyData := .tuple [trips g.vars, trips g.tabs, trips g.lots, .tuple (g.procs.map Pr.d)]
theorem nol_trip (t : Str × Int × Int) : nol (trip t) = true := rfl
theorem nolAll_trips : ∀ ts : List (Str × Int × Int), nolAll (ts.map trip) = true
  | [] => rfl
  | t :: ts => by show (nol (trip t) && nolAll (ts.map trip)) = true; rw [nolAll_trips ts]; rfl
theorem Pr.nol (p : Pr) : nol p.d = true := by
  show (Gm.nol (.str p.name) && (Gm.nol (.int p.size) && (Gm.nol (.int p.ans) && (nolAll (p.locs.map PyData.str) && (nolAll p.block.ds && (Gm.nol p.res.d && nolAll [])))))) = true
  rw [nolAll_strs, Blk.nol, Ex.nol]
  rfl
theorem nolAll_procs : ∀ ps : List Pr, nolAll (ps.map Pr.d) = true
  | [] => rfl
  | p :: ps => by show (nol p.d && nolAll (ps.map Pr.d)) = true; rw [nolAll_procs ps, Pr.nol]; rfl
theorem Ga.nol (g : Ga) : nol g.d = true := by
  show (nolAll (g.vars.map trip) && (nolAll (g.tabs.map trip) && (nolAll (g.lots.map trip) && (nolAll (g.procs.map Pr.d) && nolAll [])))) = true
  rw [nolAll_trips, nolAll_trips, nolAll_trips, nolAll_procs]
  rfl
def Ga.sc (g : Ga) (locs asks : List Str) : Sc := ⟨locs, g.vars.map (·.1), g.tabs.map (·.1), g.lots.map (·.1), asks⟩
/-! ### the games that the laws draw -/
structure PrOk (g : Ga) (p : Pr) : Prop where
  size : 1 ≤ p.size ∧ p.size ≤ 3
  ans : 2 ≤ p.ans ∧ p.ans ≤ 4
  locs : p.locs = (["g", "a"] : List Str) ∨ p.locs = (["g", "a", "b"] : List Str)
  block : p.block.Ok (g.sc p.locs []) 3 2
  len : 1 ≤ p.block.len ∧ p.block.len ≤ 4
  res : p.res.Ok (g.sc p.locs []) 3
structure GaOk (g : Ga) : Prop where
  vars : g.vars.map (·.1) = ([] : List Str) ∨ g.vars.map (·.1) = (["x"] : List Str) ∨ g.vars.map (·.1) = (["x", "y"] : List Str)
  var : ∀ v ∈ g.vars, (v.2.1 = 2 ∨ v.2.1 = 3 ∨ v.2.1 = 65535) ∧ (v.2.2 = 0 ∨ v.2.2 = 1)
  tabs : g.tabs.map (·.1) = ([] : List Str) ∨ g.tabs.map (·.1) = (["t"] : List Str) ∨ g.tabs.map (·.1) = (["t", "m"] : List Str)
  tab : ∀ v ∈ g.tabs, (v.2.1 = 2 ∨ v.2.1 = 3) ∧ (v.2.2 = 2 ∨ v.2.2 = 3)
  lots : g.lots.map (·.1) = ([] : List Str) ∨ g.lots.map (·.1) = (["o"] : List Str) ∨ g.lots.map (·.1) = (["o", "k"] : List Str)
  lot : ∀ v ∈ g.lots, (v.2.1 = 2 ∨ v.2.1 = 3) ∧ v.2.2 = 2
  procs : g.procs.map (·.name) = (["p"] : List Str) ∨ g.procs.map (·.name) = (["p", "r"] : List Str)
  proc : ∀ p ∈ g.procs, PrOk g p
/-! ### more picks -/
theorem dig_at {ds : List Int} {i : Int} (h0 : 0 ≤ i) (h1 : i < (ds.length : Int)) : ∃ d ∈ ds, atI (ds.map V.int) i = some (.int d) := by
  have hk : i.toNat < ds.length := by omega
  exact ⟨ds[i.toNat], List.getElem_mem hk, at_of (j := i.toNat) (by omega) (by rw [List.getElem?_map, List.getElem?_eq_getElem hk] <;> rfl)⟩
theorem cut2 {a b : Str} {j : Int} (h0 : 0 ≤ j) (h1 : j ≤ 2) : cutV ([V.str a, V.str b]) none (some j) = (([a, b] : List Str).take j.toNat).map V.str := by
  have : j = 0 ∨ j = 1 ∨ j = 2 := by omega
  rcases this with rfl | rfl | rfl <;> rfl
theorem take2 {a b : Str} (n : Nat) (h : n ≤ 2) : ([a, b] : List Str).take n = [] ∨ ([a, b] : List Str).take n = [a] ∨ ([a, b] : List Str).take n = [a, b] := by
  have : n = 0 ∨ n = 1 ∨ n = 2 := by omega
  rcases this with rfl | rfl | rfl
  · exact .inl rfl
  · exact .inr (.inl rfl)
  · exact .inr (.inr rfl)
end Gm
set_option Elab.async false
set_option linter.all false
set_option maxRecDepth 100000
set_option maxHeartbeats 4000000
/-! Games as data that are compared: plain data, depths, no two alike. -/
namespace Gm
open PySem L2
open PyData (strOk)
/-! ### plain data -/
mutual
def pln : PyData → Bool
  | .int _ => true
  | .str x => strOk x
  | .list xs => plnAll xs
  | .tuple xs => plnAll xs
  | _ => false
def plnAll : List PyData → Bool
  | [] => true
  | x :: xs => pln x && plnAll xs
end
mutual
theorem eqv_eq : ∀ d e : PyData, pln d = true → pln e = true → PyData.eqv d e = true → d = e
  | .int i, e, _, he, h => by
    cases e with
    | int j => simp [PyData.eqv] at h; rw [h]
    | str _ => simp [PyData.eqv] at h
    | list _ => simp [PyData.eqv] at h
    | tuple _ => simp [PyData.eqv] at h
    | _ => cases he
  | .str i, e, _, he, h => by
    cases e with
    | str j => simp [PyData.eqv] at h; rw [h]
    | int _ => simp [PyData.eqv] at h
    | list _ => simp [PyData.eqv] at h
    | tuple _ => simp [PyData.eqv] at h
    | _ => cases he
  | .list xs, e, hd, he, h => by
    cases e with
    | list ys => exact congrArg PyData.list (eqv_eqs xs ys hd he (by simpa [PyData.eqv] using h))
    | int _ => simp [PyData.eqv] at h
    | str _ => simp [PyData.eqv] at h
    | tuple _ => simp [PyData.eqv] at h
    | _ => cases he
  | .tuple xs, e, hd, he, h => by
    cases e with
    | tuple ys => exact congrArg PyData.tuple (eqv_eqs xs ys hd he (by simpa [PyData.eqv] using h))
    | int _ => simp [PyData.eqv] at h
    | str _ => simp [PyData.eqv] at h
    | list _ => simp [PyData.eqv] at h
    | _ => cases he
  | .none, _, hd, _, _ => by cases hd
  | .bool _, _, hd, _, _ => by cases hd
  | .dict _, _, hd, _, _ => by cases hd
theorem eqv_eqs : ∀ ds es : List PyData, plnAll ds = true → plnAll es = true → PyData.eqvAll ds es = true → ds = es
  | [], [], _, _, _ => rfl
  | [], _ :: _, _, _, h => by simp [PyData.eqvAll] at h
  | _ :: _, [], _, _, h => by simp [PyData.eqvAll] at h
  | d :: ds, e :: es, hd, he, h => by
    simp only [PyData.eqvAll, Bool.and_eq_true] at h
    have hd' : (pln d && plnAll ds) = true := hd
    have he' : (pln e && plnAll es) = true := he
    rw [Bool.and_eq_true] at hd' he'
    rw [eqv_eq d e hd'.1 he'.1 h.1, eqv_eqs ds es hd'.2 he'.2 h.2]
end
mutual
theorem eqv_rfl : ∀ d : PyData, pln d = true → PyData.eqv d d = true
  | .int i, _ => by simp [PyData.eqv]
  | .str i, _ => by simp [PyData.eqv]
  | .list xs, h => by simp only [PyData.eqv]; exact eqv_rfls xs h
  | .tuple xs, h => by simp only [PyData.eqv]; exact eqv_rfls xs h
  | .none, h => by cases h
  | .bool _, h => by cases h
  | .dict _, h => by cases h
theorem eqv_rfls : ∀ ds : List PyData, plnAll ds = true → PyData.eqvAll ds ds = true
  | [], _ => rfl
  | d :: ds, h => by
    have h' : (pln d && plnAll ds) = true := h
    rw [Bool.and_eq_true] at h'
    simp only [PyData.eqvAll, Bool.and_eq_true]
    exact ⟨eqv_rfl d h'.1, eqv_rfls ds h'.2⟩
end
theorem eqv_iff {d e : PyData} (hd : pln d = true) (he : pln e = true) : PyData.eqv d e = true ↔ d = e := ⟨eqv_eq d e hd he, fun h => by rw [h]; exact eqv_rfl e he⟩
mutual
theorem pln_lay : ∀ d : PyData, pln d = true → d.canLay0 = true
  | .int i, _ => by simp [PyData.canLay0]
  | .str i, h => by rw [PyData.canLay0]; exact h
  | .list xs, h => by rw [PyData.canLay0]; exact pln_lays xs h
  | .tuple xs, h => by rw [PyData.canLay0]; exact pln_lays xs h
  | .none, h => by cases h
  | .bool _, h => by cases h
  | .dict _, h => by cases h
theorem pln_lays : ∀ ds : List PyData, plnAll ds = true → PyData.canLayAll0 ds = true
  | [], _ => by simp [PyData.canLayAll0]
  | d :: ds, h => by
    have h' : (pln d && plnAll ds) = true := h
    rw [Bool.and_eq_true] at h'
    rw [PyData.canLayAll0, Bool.and_eq_true]
    exact ⟨pln_lay d h'.1, pln_lays ds h'.2⟩
end
/-- plain, and at most n deep -/
def Fit (n : Nat) (d : PyData) : Prop := pln d = true ∧ d.depth ≤ n
theorem Fit.mono {n m : Nat} {d : PyData} (h : Fit n d) (l : n ≤ m) : Fit m d := ⟨h.1, Nat.le_trans h.2 l⟩
theorem Fit.shaped {n : Nat} {d : PyData} (h : Fit n d) (l : n ≤ 64) : SeqAt.shaped d = true := by
  unfold SeqAt.shaped
  rw [Bool.and_eq_true]
  exact ⟨pln_lay _ h.1, decide_eq_true (Nat.le_trans h.2 l)⟩
theorem Fit.int {n : Nat} {i : Int} : Fit n (.int i) := ⟨rfl, by simp [PyData.depth]⟩
theorem Fit.str {n : Nat} {x : Str} (h : strOk x = true) : Fit n (.str x) := ⟨h, by simp [PyData.depth]⟩
def FitAll (n : Nat) (ds : List PyData) : Prop := plnAll ds = true ∧ PyData.depthAll ds ≤ n
theorem FitAll.nil {n : Nat} : FitAll n [] := ⟨rfl, by simp [PyData.depthAll]⟩
theorem FitAll.cons {n : Nat} {d : PyData} {ds : List PyData} (h : Fit n d) (t : FitAll n ds) : FitAll n (d :: ds) := by
  refine ⟨?_, ?_⟩
  · show (pln d && plnAll ds) = true
    rw [h.1, t.1]
    rfl
  · rw [PyData.depthAll]
    exact Nat.max_le.mpr ⟨h.2, t.2⟩
theorem FitAll.of {n : Nat} {ds : List PyData} : (∀ d ∈ ds, Fit n d) → FitAll n ds := fun h => by
  induction ds with
  | nil => exact .nil
  | cons d ds ih => exact .cons (h d (List.mem_cons_self ..)) (ih fun x hx => h x (List.mem_cons_of_mem _ hx))
theorem FitAll.app {n : Nat} : ∀ {ds es : List PyData}, FitAll n ds → FitAll n es → FitAll n (ds ++ es)
  | [], _, _, h => h
  | d :: ds, es, h, t => by
    have h' : (pln d && plnAll ds) = true := h.1
    rw [Bool.and_eq_true] at h'
    have h2 := h.2
    rw [PyData.depthAll] at h2
    have h3 := Nat.max_le.mp h2
    exact .cons ⟨h'.1, h3.1⟩ (FitAll.app ⟨h'.2, h3.2⟩ t)
theorem FitAll.tup {n : Nat} {ds : List PyData} (h : FitAll n ds) : Fit (n + 1) (.tuple ds) := ⟨h.1, by rw [PyData.depth]; exact Nat.succ_le_succ h.2⟩
theorem FitAll.lst {n : Nat} {ds : List PyData} (h : FitAll n ds) : Fit (n + 1) (.list ds) := ⟨h.1, by rw [PyData.depth]; exact Nat.succ_le_succ h.2⟩
/-! ### expressions and statements without a scope -/
def nmB (x : Str) : Bool := strOk x && decide (x.length ≤ 100)
theorem nm_ok {x : Str} (h : nmB x = true) : strOk x = true := (Bool.and_eq_true_iff.mp h).1
theorem nm_len {x : Str} (h : nmB x = true) : x.length ≤ 100 := of_decide_eq_true (Bool.and_eq_true_iff.mp h).2
def exF : Nat → Ex → Prop
  | 0, _ => False
  | _ + 1, .num n => 0 ≤ n ∧ n ≤ 65535
  | _ + 1, .loc x => nmB x = true
  | _ + 1, .var x => nmB x = true
  | k + 1, .has t e => nmB t = true ∧ exF k e
  | k + 1, .cell t e => nmB t = true ∧ exF k e
  | k + 1, .op o a b => o ∈ ops ∧ exF k a ∧ exF k b
mutual
def stF (k : Nat) : Nat → Stm → Prop
  | _, .set x e => nmB x = true ∧ exF k e
  | _, .lt l e => nmB l = true ∧ exF k e
  | _, .draw l n => nmB l = true ∧ 0 ≤ n ∧ n ≤ 65535
  | _, .put t e f => nmB t = true ∧ exF k e ∧ exF k f
  | _, .lot l o e => nmB l = true ∧ nmB o = true ∧ exF k e
  | _, .ask l p e => nmB l = true ∧ nmB p = true ∧ exF k e
  | 0, .ite _ _ _ => False
  | d + 1, .ite e a b => exF k e ∧ blF k d a ∧ blF k d b ∧ a.len ≤ 50 * k + 50 ∧ b.len ≤ 50 * k + 50
  | _, .bad => True
  | 0, .after _ => False
  | d + 1, .after a => blF k d a ∧ a.len ≤ 50 * k + 50
def blF (k : Nat) : Nat → Blk → Prop
  | _, .nil => True
  | d, .cons x r => stF k d x ∧ blF k d r
end
structure ScN (s : Sc) : Prop where
  l : ∀ x ∈ s.locs, nmB x = true
  v : ∀ x ∈ s.vars, nmB x = true
  t : ∀ x ∈ s.tabs, nmB x = true
  o : ∀ x ∈ s.lots, nmB x = true
  a : ∀ x ∈ s.asks, nmB x = true
theorem exF.ofOk {s : Sc} (hs : ScN s) : ∀ {k : Nat} {e : Ex}, e.Ok s k → exF k e
  | 0, _, h => h.elim
  | _ + 1, .num _, h => h
  | _ + 1, .loc x, h => hs.l x h
  | _ + 1, .var x, h => hs.v x h
  | k + 1, .has t e, h => ⟨hs.t t h.1, exF.ofOk hs h.2⟩
  | k + 1, .cell t e, h => ⟨hs.t t h.1, exF.ofOk hs h.2⟩
  | k + 1, .op o a b, h => ⟨h.1, exF.ofOk hs h.2.1, exF.ofOk hs h.2.2⟩
mutual
theorem stF.ofOk {s : Sc} (hs : ScN s) {k : Nat} : ∀ {d : Nat} {x : Stm}, x.Ok s k d → stF k d x
  | d, .set x e, h => by unfold Stm.Ok at h; unfold stF; exact ⟨hs.v _ h.1, .ofOk hs h.2⟩
  | d, .lt x e, h => by unfold Stm.Ok at h; unfold stF; exact ⟨hs.l _ h.1, .ofOk hs h.2⟩
  | d, .draw l n, h => by unfold Stm.Ok at h; unfold stF; exact ⟨hs.l _ h.1, by omega, by omega⟩
  | d, .put t e f, h => by unfold Stm.Ok at h; unfold stF; exact ⟨hs.t _ h.1, .ofOk hs h.2.1, .ofOk hs h.2.2⟩
  | d, .lot l o e, h => by unfold Stm.Ok at h; unfold stF; exact ⟨hs.l _ h.1, hs.o _ h.2.1, .ofOk hs h.2.2⟩
  | d, .ask l p e, h => by unfold Stm.Ok at h; unfold stF; exact ⟨hs.l _ h.1, hs.a _ h.2.1, .ofOk hs h.2.2⟩
  | 0, .ite _ _ _, h => by unfold Stm.Ok at h; exact h.elim
  | d + 1, .ite e a b, h => by unfold Stm.Ok at h; unfold stF; exact ⟨.ofOk hs h.1, blF.ofOk hs h.2.1, blF.ofOk hs h.2.2.1, by have := h.2.2.2.1; omega, by have := h.2.2.2.2; omega⟩
  | d, .bad, h => by cases d <;> (unfold stF; trivial)
  | 0, .after _, h => by unfold Stm.Ok at h; exact h.elim
  | d + 1, .after a, h => by unfold Stm.Ok at h; unfold stF; exact ⟨blF.ofOk hs h.1, by have := h.2; omega⟩
theorem blF.ofOk {s : Sc} (hs : ScN s) {k : Nat} : ∀ {d : Nat} {b : Blk}, b.Ok s k d → blF k d b
  | d, .nil, h => by unfold blF; trivial
  | d, .cons x r, h => by unfold Blk.Ok at h; unfold blF; exact ⟨stF.ofOk hs h.1, blF.ofOk hs h.2⟩
end
theorem exF.mono : ∀ {k j : Nat} {e : Ex}, exF k e → k ≤ j → exF j e
  | 0, _, _, h, _ => h.elim
  | _ + 1, 0, _, _, hj => absurd hj (by omega)
  | _ + 1, _ + 1, .num _, h, _ => h
  | _ + 1, _ + 1, .loc _, h, _ => h
  | _ + 1, _ + 1, .var _, h, _ => h
  | k + 1, j + 1, .has _ _, h, hj => ⟨h.1, h.2.mono (by omega)⟩
  | k + 1, j + 1, .cell _ _, h, hj => ⟨h.1, h.2.mono (by omega)⟩
  | k + 1, j + 1, .op _ _ _, h, hj => ⟨h.1, h.2.1.mono (by omega), h.2.2.mono (by omega)⟩
mutual
theorem stF.mono {k j : Nat} (hk : k ≤ j) : ∀ {d e : Nat} {x : Stm}, stF k d x → d ≤ e → stF j e x
  | d, e, .set _ _, h, _ => by unfold stF at h ⊢; exact ⟨h.1, h.2.mono hk⟩
  | d, e, .lt _ _, h, _ => by unfold stF at h ⊢; exact ⟨h.1, h.2.mono hk⟩
  | d, e, .draw _ _, h, _ => by unfold stF at h ⊢; exact h
  | d, e, .put _ _ _, h, _ => by unfold stF at h ⊢; exact ⟨h.1, h.2.1.mono hk, h.2.2.mono hk⟩
  | d, e, .lot _ _ _, h, _ => by unfold stF at h ⊢; exact ⟨h.1, h.2.1, h.2.2.mono hk⟩
  | d, e, .ask _ _ _, h, _ => by unfold stF at h ⊢; exact ⟨h.1, h.2.1, h.2.2.mono hk⟩
  | d, e, .bad, _, _ => by cases e <;> (unfold stF; trivial)
  | 0, e, .ite _ _ _, h, _ => by unfold stF at h; exact h.elim
  | d + 1, 0, .ite _ _ _, h, he => absurd he (by omega)
  | d + 1, e + 1, .ite _ _ _, h, he => by unfold stF at h ⊢; exact ⟨h.1.mono hk, h.2.1.mono hk (by omega), h.2.2.1.mono hk (by omega), by have := h.2.2.2.1; omega, by have := h.2.2.2.2; omega⟩
  | 0, e, .after _, h, _ => by unfold stF at h; exact h.elim
  | d + 1, 0, .after _, h, he => absurd he (by omega)
  | d + 1, e + 1, .after _, h, he => by unfold stF at h ⊢; exact ⟨h.1.mono hk (by omega), by have := h.2; omega⟩
theorem blF.mono {k j : Nat} (hk : k ≤ j) : ∀ {d e : Nat} {b : Blk}, blF k d b → d ≤ e → blF j e b
  | d, e, .nil, h, _ => by unfold blF; trivial
  | d, e, .cons x r, h, he => by unfold blF at h ⊢; exact ⟨h.1.mono hk he, h.2.mono hk he⟩
end
theorem op_str {o : Str} (h : o ∈ ops) : strOk o = true ∧ o.length ≤ 3 := by
  have : ∀ o ∈ ops, (strOk o && decide (o.length ≤ 3)) = true := by decide +kernel
  have := Bool.and_eq_true_iff.mp (this o h)
  exact ⟨this.1, of_decide_eq_true this.2⟩
theorem strOk_lit : strOk "number" = true ∧ strOk "local" = true ∧ strOk "variable" = true ∧ strOk "has" = true ∧ strOk "cell" = true ∧ strOk "set" = true ∧ strOk "let" = true ∧ strOk "draw" = true ∧ strOk "put" = true ∧ strOk "lot" = true ∧ strOk "ask" = true ∧ strOk "if" = true ∧ strOk "bad" = true ∧ strOk "after" = true := by decide +kernel
theorem exF.fit : ∀ {k : Nat} {e : Ex}, exF k e → Fit k e.d
  | 0, _, h => h.elim
  | k + 1, .num n, h => (FitAll.cons (.str strOk_lit.1) (.cons .int .nil)).tup
  | k + 1, .loc x, h => (FitAll.cons (.str strOk_lit.2.1) (.cons (.str (nm_ok h)) .nil)).tup
  | k + 1, .var x, h => (FitAll.cons (.str strOk_lit.2.2.1) (.cons (.str (nm_ok h)) .nil)).tup
  | k + 1, .has t e, h => (FitAll.cons (.str strOk_lit.2.2.2.1) (.cons (.str (nm_ok h.1)) (.cons h.2.fit .nil))).tup
  | k + 1, .cell t e, h => (FitAll.cons (.str strOk_lit.2.2.2.2.1) (.cons (.str (nm_ok h.1)) (.cons h.2.fit .nil))).tup
  | k + 1, .op o a b, h => (FitAll.cons (.str (op_str h.1).1) (.cons h.2.1.fit (.cons h.2.2.fit .nil))).tup
mutual
theorem stF.fit {k : Nat} : ∀ {d : Nat} {x : Stm}, stF k d x → Fit (k + 2 * d + 1) x.d
  | d, .set x e, h => by unfold stF at h; unfold Stm.d; exact (FitAll.cons (.str strOk_lit.2.2.2.2.2.1) (.cons (.str (nm_ok h.1)) (.cons (h.2.fit.mono (by omega)) .nil))).tup
  | d, .lt x e, h => by unfold stF at h; unfold Stm.d; exact (FitAll.cons (.str strOk_lit.2.2.2.2.2.2.1) (.cons (.str (nm_ok h.1)) (.cons (h.2.fit.mono (by omega)) .nil))).tup
  | d, .draw l n, h => by unfold stF at h; unfold Stm.d; exact (FitAll.cons (.str strOk_lit.2.2.2.2.2.2.2.1) (.cons (.str (nm_ok h.1)) (.cons .int .nil))).tup
  | d, .put t e f, h => by unfold stF at h; unfold Stm.d; exact (FitAll.cons (.str strOk_lit.2.2.2.2.2.2.2.2.1) (.cons (.str (nm_ok h.1)) (.cons (h.2.1.fit.mono (by omega)) (.cons (h.2.2.fit.mono (by omega)) .nil)))).tup
  | d, .lot l o e, h => by unfold stF at h; unfold Stm.d; exact (FitAll.cons (.str strOk_lit.2.2.2.2.2.2.2.2.2.1) (.cons (.str (nm_ok h.1)) (.cons (.str (nm_ok h.2.1)) (.cons (h.2.2.fit.mono (by omega)) .nil)))).tup
  | d, .ask l p e, h => by unfold stF at h; unfold Stm.d; exact (FitAll.cons (.str strOk_lit.2.2.2.2.2.2.2.2.2.2.1) (.cons (.str (nm_ok h.1)) (.cons (.str (nm_ok h.2.1)) (.cons (h.2.2.fit.mono (by omega)) .nil)))).tup
  | 0, .ite _ _ _, h => by unfold stF at h; exact h.elim
  | d + 1, .ite e a b, h => by unfold stF at h; unfold Stm.d; exact (FitAll.cons (.str strOk_lit.2.2.2.2.2.2.2.2.2.2.2.1) (.cons (h.1.fit.mono (by omega)) (.cons ((blF.fit h.2.1).tup.mono (by omega)) (.cons ((blF.fit h.2.2.1).tup.mono (by omega)) .nil)))).tup
  | d, .bad, h => by unfold Stm.d; exact (FitAll.cons (.str strOk_lit.2.2.2.2.2.2.2.2.2.2.2.2.1) .nil).tup
  | 0, .after _, h => by unfold stF at h; exact h.elim
  | d + 1, .after a, h => by unfold stF at h; unfold Stm.d; exact (FitAll.cons (.str strOk_lit.2.2.2.2.2.2.2.2.2.2.2.2.2) (.cons ((blF.fit h.1).tup.mono (by omega)) .nil)).tup
theorem blF.fit {k : Nat} : ∀ {d : Nat} {b : Blk}, blF k d b → FitAll (k + 2 * d + 1) b.ds
  | d, .nil, h => by unfold Blk.ds; exact .nil
  | d, .cons x r, h => by unfold blF at h; unfold Blk.ds; exact .cons (stF.fit h.1) (blF.fit h.2)
end
/-! ### no two alike -/
theorem Ex.inj : ∀ a b : Ex, a.d = b.d → a = b
  | .num n, b, h => by cases b <;> simp [Ex.d] at h <;> simp [h]
  | .loc n, b, h => by cases b <;> simp [Ex.d] at h <;> first | (simp [h]; done) | exact absurd h.1 (by decide +kernel)
  | .var n, b, h => by cases b <;> simp [Ex.d] at h <;> first | (simp [h]; done) | exact absurd h.1 (by decide +kernel)
  | .has t e, b, h => by
    cases b with
    | has u f => simp [Ex.d] at h; rw [h.1, Ex.inj e f h.2]
    | cell u f => simp [Ex.d] at h; exact absurd h.1 (by decide +kernel)
    | op o u f => exfalso; cases u <;> simp [Ex.d] at h
    | _ => simp [Ex.d] at h
  | .cell t e, b, h => by
    cases b with
    | cell u f => simp [Ex.d] at h; rw [h.1, Ex.inj e f h.2]
    | has u f => simp [Ex.d] at h; exact absurd h.1 (by decide +kernel)
    | op o u f => exfalso; cases u <;> simp [Ex.d] at h
    | _ => simp [Ex.d] at h
  | .op o a c, b, h => by
    cases b with
    | op p u f => simp [Ex.d] at h; rw [h.1, Ex.inj a u h.2.1, Ex.inj c f h.2.2]
    | has u f => exfalso; cases a <;> simp [Ex.d] at h
    | cell u f => exfalso; cases a <;> simp [Ex.d] at h
    | _ => simp [Ex.d] at h
def Stm.kind : Stm → Str
  | .set _ _ => "set" | .lt _ _ => "let" | .draw _ _ => "draw" | .put _ _ _ => "put" | .lot _ _ _ => "lot" | .ask _ _ _ => "ask" | .ite _ _ _ => "if" | .bad => "bad" | .after _ => "after"
/-- what stands behind the kind -/
def Stm.args : Stm → List PyData
  | .set x e => [.str x, e.d] | .lt l e => [.str l, e.d] | .draw l n => [.str l, .int n] | .put t e f => [.str t, e.d, f.d] | .lot l o e => [.str l, .str o, e.d] | .ask l p e => [.str l, .str p, e.d] | .ite e a b => [e.d, a.d, b.d] | .bad => [] | .after a => [a.d]
theorem Stm.d_kind (x : Stm) : x.d = .tuple (.str x.kind :: x.args) := by cases x <;> unfold Stm.d <;> rfl
theorem kinds_ne : ∀ x y : Stm, x.kind = y.kind → (match x, y with
    | .set _ _, .set _ _ => True | .lt _ _, .lt _ _ => True | .draw _ _, .draw _ _ => True | .put _ _ _, .put _ _ _ => True | .lot _ _ _, .lot _ _ _ => True | .ask _ _ _, .ask _ _ _ => True | .ite _ _ _, .ite _ _ _ => True | .bad, .bad => True | .after _, .after _ => True | _, _ => False) := by
  intro x y h
  cases x <;> cases y <;> first | trivial | (dsimp only [Stm.kind] at h; exact absurd h (by decide +kernel))
mutual
theorem Stm.inj : ∀ a b : Stm, a.d = b.d → a = b
  | .set x e, b, h => by
    rw [Stm.d_kind, Stm.d_kind] at h
    injection h with h; injection h with h1 h2; injection h1 with h1
    have := kinds_ne _ _ h1
    cases b <;> first | exact this.elim | skip
    unfold Stm.args at h2; simp at h2; rw [h2.1, Ex.inj _ _ h2.2]
  | .lt x e, b, h => by
    rw [Stm.d_kind, Stm.d_kind] at h
    injection h with h; injection h with h1 h2; injection h1 with h1
    have := kinds_ne _ _ h1
    cases b <;> first | exact this.elim | skip
    unfold Stm.args at h2; simp at h2; rw [h2.1, Ex.inj _ _ h2.2]
  | .draw x e, b, h => by
    rw [Stm.d_kind, Stm.d_kind] at h
    injection h with h; injection h with h1 h2; injection h1 with h1
    have := kinds_ne _ _ h1
    cases b <;> first | exact this.elim | skip
    unfold Stm.args at h2; simp at h2; rw [h2.1, h2.2]
  | .put x e f, b, h => by
    rw [Stm.d_kind, Stm.d_kind] at h
    injection h with h; injection h with h1 h2; injection h1 with h1
    have := kinds_ne _ _ h1
    cases b <;> first | exact this.elim | skip
    unfold Stm.args at h2; simp at h2; rw [h2.1, Ex.inj _ _ h2.2.1, Ex.inj _ _ h2.2.2]
  | .lot x o e, b, h => by
    rw [Stm.d_kind, Stm.d_kind] at h
    injection h with h; injection h with h1 h2; injection h1 with h1
    have := kinds_ne _ _ h1
    cases b <;> first | exact this.elim | skip
    unfold Stm.args at h2; simp at h2; rw [h2.1, h2.2.1, Ex.inj _ _ h2.2.2]
  | .ask x o e, b, h => by
    rw [Stm.d_kind, Stm.d_kind] at h
    injection h with h; injection h with h1 h2; injection h1 with h1
    have := kinds_ne _ _ h1
    cases b <;> first | exact this.elim | skip
    unfold Stm.args at h2; simp at h2; rw [h2.1, h2.2.1, Ex.inj _ _ h2.2.2]
  | .ite e p q, b, h => by
    rw [Stm.d_kind, Stm.d_kind] at h
    injection h with h; injection h with h1 h2; injection h1 with h1
    have := kinds_ne _ _ h1
    cases b <;> first | exact this.elim | skip
    unfold Stm.args Blk.d at h2; simp at h2; rw [Ex.inj _ _ h2.1, Blk.inj _ _ h2.2.1, Blk.inj _ _ h2.2.2]
  | .bad, b, h => by
    rw [Stm.d_kind, Stm.d_kind] at h
    injection h with h; injection h with h1 h2; injection h1 with h1
    have := kinds_ne _ _ h1
    cases b <;> first | exact this.elim | rfl
  | .after p, b, h => by
    rw [Stm.d_kind, Stm.d_kind] at h
    injection h with h; injection h with h1 h2; injection h1 with h1
    have := kinds_ne _ _ h1
    cases b <;> first | exact this.elim | skip
    unfold Stm.args Blk.d at h2; simp at h2; rw [Blk.inj _ _ h2]
theorem Blk.inj : ∀ a b : Blk, a.ds = b.ds → a = b
  | .nil, .nil, _ => rfl
  | .nil, .cons x r, h => by unfold Blk.ds at h; cases h
  | .cons x r, .nil, h => by unfold Blk.ds at h; cases h
  | .cons x r, .cons y s, h => by
    unfold Blk.ds at h
    injection h with h1 h2
    rw [Stm.inj x y h1, Blk.inj r s h2]
end
/-! ### a block as a list -/
def Blk.l : Blk → List Stm
  | .nil => []
  | .cons s r => s :: r.l
theorem Blk.ds_l : ∀ b : Blk, b.ds = b.l.map Stm.d
  | .nil => by unfold Blk.ds Blk.l; rfl
  | .cons s r => by unfold Blk.ds Blk.l; rw [Blk.ds_l r]; rfl
theorem Blk.of_l : ∀ b : Blk, Blk.of b.l = b
  | .nil => rfl
  | .cons s r => by unfold Blk.l Blk.of; rw [Blk.of_l r]
theorem Blk.l_of : ∀ l : List Stm, (Blk.of l).l = l
  | [] => rfl
  | s :: r => by unfold Blk.of Blk.l; rw [Blk.l_of r]
theorem Blk.ds_of (l : List Stm) : (Blk.of l).ds = l.map Stm.d := by rw [Blk.ds_l, Blk.l_of]
theorem blF.l {k d : Nat} : ∀ {b : Blk}, blF k d b → ∀ x ∈ b.l, stF k d x
  | .nil, _, x, h => by unfold Blk.l at h; cases h
  | .cons s r, hb, x, h => by
    unfold blF at hb
    unfold Blk.l at h
    rcases List.mem_cons.mp h with rfl | h
    · exact hb.1
    · exact blF.l hb.2 x h
theorem blF.of {k d : Nat} : ∀ {l : List Stm}, (∀ x ∈ l, stF k d x) → blF k d (Blk.of l)
  | [], _ => by unfold Blk.of blF; trivial
  | s :: r, h => by
    unfold Blk.of blF
    exact ⟨h s (List.mem_cons_self ..), blF.of fun x hx => h x (List.mem_cons_of_mem _ hx)⟩
theorem Blk.len_l : ∀ b : Blk, b.l.length = b.len
  | .nil => rfl
  | .cons s r => by unfold Blk.l Blk.len; rw [List.length_cons, Blk.len_l r]
/-! ### procedures, games -/
structure PrF_ (k d : Nat) (p : Pr) : Prop where
  name : nmB p.name = true
  locs : ∀ x ∈ p.locs, nmB x = true
  block : blF k d p.block
  res : exF k p.res
structure GaF (k d : Nat) (g : Ga) : Prop where
  vars : ∀ t ∈ g.vars, nmB t.1 = true
  tabs : ∀ t ∈ g.tabs, nmB t.1 = true
  lots : ∀ t ∈ g.lots, nmB t.1 = true
  procs : ∀ p ∈ g.procs, PrF_ k d p
theorem fit_strs {n : Nat} {xs : List Str} (h : ∀ x ∈ xs, nmB x = true) : Fit (n + 1) (strD xs) := by
  refine FitAll.tup (FitAll.of fun d hd => ?_)
  obtain ⟨x, hx, rfl⟩ := List.mem_map.mp hd
  exact .str (nm_ok (h x hx))
theorem PrF_.fit {k d : Nat} {p : Pr} (h : PrF_ k d p) : Fit (k + 2 * d + 3) p.d := by
  unfold Pr.d
  refine (FitAll.cons (.str (nm_ok h.name)) (.cons .int (.cons .int (.cons ((fit_strs (n := 0) h.locs).mono (by omega)) (.cons ((blF.fit h.block).tup.mono (by omega)) (.cons (h.res.fit.mono (by omega)) .nil)))))).tup
theorem fit_trips {n : Nat} {ts : List (Str × Int × Int)} (h : ∀ t ∈ ts, nmB t.1 = true) : Fit (n + 2) (trips ts) := by
  refine FitAll.tup (FitAll.of fun d hd => ?_)
  obtain ⟨t, ht, rfl⟩ := List.mem_map.mp hd
  exact (FitAll.cons (.str (nm_ok (h t ht))) (.cons .int (.cons .int .nil))).tup
theorem fit_procs {k d : Nat} {ps : List Pr} (h : ∀ p ∈ ps, PrF_ k d p) : Fit (k + 2 * d + 4) (.tuple (ps.map Pr.d)) := by
  refine FitAll.tup (FitAll.of fun d hd => ?_)
  obtain ⟨t, ht, rfl⟩ := List.mem_map.mp hd
  exact (h t ht).fit
theorem GaF.fit {k d : Nat} {g : Ga} (h : GaF k d g) : Fit (k + 2 * d + 5) g.d := by
  unfold Ga.d
  exact (FitAll.cons ((fit_trips (n := 0) h.vars).mono (by omega)) (.cons ((fit_trips (n := 0) h.tabs).mono (by omega)) (.cons ((fit_trips (n := 0) h.lots).mono (by omega)) (.cons (fit_procs h.procs) .nil)))).tup
theorem all_nm {l : List Str} (h : l.all nmB = true) : ∀ x ∈ l, nmB x = true := List.all_eq_true.mp h
theorem GaF.ofOk {g : Ga} (h : GaOk g) : GaF 3 2 g := by
  have v : ∀ x ∈ g.vars.map (·.1), nmB x = true := fun x hx => by
    rcases h.vars with e | e | e <;> rw [e] at hx <;> exact all_nm (by decide +kernel) x hx
  have t : ∀ x ∈ g.tabs.map (·.1), nmB x = true := fun x hx => by
    rcases h.tabs with e | e | e <;> rw [e] at hx <;> exact all_nm (by decide +kernel) x hx
  have o : ∀ x ∈ g.lots.map (·.1), nmB x = true := fun x hx => by
    rcases h.lots with e | e | e <;> rw [e] at hx <;> exact all_nm (by decide +kernel) x hx
  have p : ∀ x ∈ g.procs.map (·.name), nmB x = true := fun x hx => by
    rcases h.procs with e | e <;> rw [e] at hx <;> exact all_nm (by decide +kernel) x hx
  refine ⟨fun x hx => v _ (List.mem_map.mpr ⟨x, hx, rfl⟩), fun x hx => t _ (List.mem_map.mpr ⟨x, hx, rfl⟩), fun x hx => o _ (List.mem_map.mpr ⟨x, hx, rfl⟩), fun q hq => ?_⟩
  have P := h.proc q hq
  have l : ∀ x ∈ q.locs, nmB x = true := fun x hx => by
    rcases P.locs with e | e <;> rw [e] at hx <;> exact all_nm (by decide +kernel) x hx
  have sc : ScN (g.sc q.locs []) := ⟨l, v, t, o, fun x h => nomatch h⟩
  exact ⟨p _ (List.mem_map.mpr ⟨q, hq, rfl⟩), l, .ofOk sc P.block, .ofOk sc P.res⟩
end Gm
set_option Elab.async false
set_option linter.all false
set_option maxRecDepth 100000
set_option maxHeartbeats 2000000
/-! Rules of my own over the hand layer: operators, ==, str of own instances; a call that makes an instance within a try; isinstance of a held error with several classes. -/
namespace Mine
open PySem PySem.Spec PyProof.Rows L2
section
variable {X : Cx} {CX : CXT} {C f : Addr} {fd : FuncData} {ps : List Str} {sp : Sp} {E : XK} {n : Nat}

/-- a binary operator of two instances of one class -/
def rOwn (C : Addr) (sp : Sp) (E : XK) : R2 := fun x y H Q => ∃ a b dx dy fs gs, x = .ref a ∧ y = .ref b ∧ H a = some (.ins C dx fs) ∧ H b = some (.ins C dy gs) ∧ sp [.ref a, .ref b] H Q E
theorem op_own {op : Operator} (F : FnOk X.prog X.w X.K X.mg X.base CX n f fd ps sp) (hr : Room n X.A) (hb : Binds X.K fd ps []) (hx : Passes CX X E)
    (hc : PySem.W.selfFirst X.K C = true) (hs : PySem.W.findIn X.K (.ref C) (PySem.dunder op.info.2) = some (some (.ref f))) (hf : PySem.W.isFn X.K (.ref f) = true) : OpR X (binaryOp op) (rOwn C sp E) := by
  intro pins s σ H x y v u Q I rx ry h
  obtain ⟨a, b, dx, dy, fs, gs, rfl, rfl, ha, hb', q⟩ := h
  cases rx
  cases ry
  obtain ⟨mA, J, _⟩ := ins_get I.hok ha
  obtain ⟨mB, J', _⟩ := ins_get I.hok hb'
  obtain ⟨od, J, _⟩ := J.look
  obtain ⟨od', J', _⟩ := J'.look
  obtain ⟨m, hF⟩ := I.fr
  refine PySem.W.binop_K hF I.ok.mod.kin J J'.type hc hs hf ?_
  have r2 : Vals [V.ref a, V.ref b] [Value.ref a, Value.ref b] := .cons rfl (.cons rfl .nil)
  refine wpAny_mono (run_fn (dvs := []) (ds := []) F hr hb .nil hx I r2 (by simpa using q)) (fun v s' hv => ?_) fun _ _ z => z
  obtain ⟨z, H', I', rz, q'⟩ := hv
  exact SlX.cmpback rz ⟨z, H', I', rz, q'⟩

/-- == of two instances of one class with an own __eq__ -/
theorem op_ownEq (F : FnOk X.prog X.w X.K X.mg X.base CX n f fd ps sp) (hr : Room n X.A) (hb : Binds X.K fd ps []) (hx : Passes CX X E)
    (hs : PySem.W.findIn X.K (.ref C) "__eq__" = some (some (.ref f))) (hf : PySem.W.isFn X.K (.ref f) = true) : OpR X (compareOp .Eq) (rOwn C sp E) := by
  intro pins s σ H x y v u Q I rx ry h
  obtain ⟨a, b, dx, dy, fs, gs, rfl, rfl, ha, hb', q⟩ := h
  cases rx
  cases ry
  obtain ⟨mA, J, _⟩ := ins_get I.hok ha
  obtain ⟨mB, J', _⟩ := ins_get I.hok hb'
  obtain ⟨od, J, _⟩ := J.look
  obtain ⟨od', J', _⟩ := J'.look
  obtain ⟨m, hF⟩ := I.fr
  show wpAny (model X.prog X.w) X.A (richCompare .Eq _ _) (EP X pins σ Q) X.xe s
  refine PySem.W.cmp_K (op := .Eq) (tb := .ref C) hr.units0 hF I.ok.mod.kin J J'.type (by simp [PySem.W.notFirst]) hs hf ?_
  have r2 : Vals [V.ref a, V.ref b] [Value.ref a, Value.ref b] := .cons rfl (.cons rfl .nil)
  refine wpAny_mono (run_fn (dvs := []) (ds := []) F hr hb .nil hx I r2 (by simpa using q)) (fun v s' hv => ?_) fun _ _ z => z
  obtain ⟨z, H', I', rz, q'⟩ := hv
  exact SlX.cmpback rz ⟨z, H', I', rz, q'⟩

theorem strback {P : Value → Shared → Prop} {z : Str} {v : Value} {s' : Shared} (r : RelV (.str z) v) (h : P v s') : PySem.W.StrBack P v s' := by
  obtain ⟨t, rfl⟩ := r
  exact h
/-- str(x) of an instance with an own __str__ -/
def rStrOwn (C : Addr) (sp : Sp) (E : XK) : List V → Hp → VK → Prop := fun xs H Q => ∃ a dx fs, xs = [.ref a] ∧ H a = some (.ins C dx fs) ∧ sp [.ref a] H (fun v H' => ∃ z, v = .str z ∧ Q (.str z) H') E
theorem call_strOwn (F : FnOk X.prog X.w X.K X.mg X.base CX n f fd ps sp) (hr : Room (n + 2) X.A) (hb : Binds X.K fd ps []) (hx : Passes CX X E)
    (hs : PySem.W.findIn X.K (.ref C) "__str__" = some (some (.ref f))) (hf : PySem.W.isFn X.K (.ref f) = true) : CallR X (.type "str") (rStrOwn C sp E) := by
  intro pins s σ H xs us Q I r h
  obtain ⟨a, dx, fs, rfl, ha, q⟩ := h
  obtain ⟨u, rfl, ru⟩ := vals1 r
  cases ru
  obtain ⟨mA, J, _⟩ := ins_get I.hok ha
  obtain ⟨od, J, _⟩ := J.look
  have hr2 : Room n X.A.in1.in1 := hr.in1.in1
  refine PySem.W.kso_call hr2.units0 I.kIn J hs hf ?_
  have e0 : Env0 X.prog X.w X.K X.mg X.base X.A.in1.in1 X.stack s H := by
    have e := I.env0
    exact ⟨e.frames, e.mod, e.bs, e.bsz, e.funs, e.frf, e.hok, e.bare⟩
  have hl := F.len _ _ _ _ q
  have r2 : Vals [V.ref a] [Value.ref a] := .cons rfl .nil
  refine wpAny_call (codeAny_mono (F.run _ X.stack s H ⟨[.ref a], []⟩ [.ref a] [.ref a] _ E hr2 e0 (by
    have := hb s [.ref a] I.kIn (by simpa using hl)
    simpa using this) r2 q) fun r s' hq => ?_)
  cases r with
  | error e => exact hx pins σ H s e s' I hq
  | ok fl =>
    cases fl with
    | ret w =>
      obtain ⟨z, H', I', rz, z', ez, q'⟩ := I.after hq
      subst ez
      exact strback rz ⟨.str z', H', I', rz, q'⟩
    | next => exact False.elim hq
    | brk => exact False.elim hq
    | cont => exact False.elim hq
end

/-! ### C(e, ..) that may raise, within a try body -/
section
variable {X : Cx} {CX : CXT} {k : Nat} {f C : Addr} {fd : FuncData} {ps : List Str} {sp : Sp} {E : L2.St → XK} {x : Str} {p pos : Pos} {e : Expr} {es : List Expr} {t : TA}
theorem run_makeS {pins : List (Addr × Obj)} {σ : L2.St} {H : Hp} {s : Shared} {Q : VK} {us : List Value} {vs : List V} (M : Mk X.K C f) (F : FnOk X.prog X.w X.K X.mg X.base CX k f fd ps sp) (hr : Room (k + 1) X.A) (hb : Binds X.K fd ps [])
    (hx : PassesAt CX X σ (E σ)) (I : Inv X pins σ H s) (r : Vals vs us)
    (h : ∀ x dx, H x = none → H dx = none → dx ≠ x → sp (.ref x :: vs) (upd (upd H dx (.own x)) x (.ins C dx [])) (fun v H2 => v = .non ∧ Q (.ref x) H2) (E σ)) :
    wpAny (model X.prog X.w) X.A (call (.ref C) us) (EP X pins σ Q) X.xe s := by
  have hq := h (s.heap.objs.size + 1) s.heap.objs.size (I.hok.fresh (Nat.le_succ _)) (I.hok.fresh (Nat.le_refl _)) (Nat.ne_of_lt (Nat.lt_succ_self _))
  have I2 := Inv.made (C := C) I
  have r2 : Vals (V.ref (s.heap.objs.size + 1) :: vs) (Value.ref (s.heap.objs.size + 1) :: us) := .cons rfl r
  have hl : (Value.ref (s.heap.objs.size + 1) :: us ++ []).length = ps.length := by
    have e := r2.length
    rw [F.len _ _ _ _ hq] at e
    rw [List.append_nil]
    exact e.symm
  refine wpAny_call ((make_map (f := f) I.kIn M.makes M.init (beq_iff_eq.mp M.fn) (codeAny_mono (F.run _ X.stack _ _ ⟨Value.ref (s.heap.objs.size + 1) :: us, []⟩ (Value.ref (s.heap.objs.size + 1) :: us) _ _ (E σ) (hr.make C us [])
    (I2.env0.make C us []) (by have z := hb _ (Value.ref (s.heap.objs.size + 1) :: us) I2.kIn hl; rw [List.append_nil] at z; exact z) r2 hq) fun r s' hq' => ?_)))
  cases r with
  | error e => exact hx pins _ _ e s' I2 hq'
  | ok fl =>
    cases fl with
    | ret u =>
      obtain ⟨v, H', I3, rv, ev, q3⟩ := I2.after hq'
      subst ev
      exact ⟨rv, ⟨V.ref (s.heap.objs.size + 1), H', I3, rfl, q3⟩⟩
    | next => exact False.elim hq'
    | brk => exact False.elim hq'
    | cont => exact False.elim hq'
end
/-- C(e, ..) within a try body -/
def tMakeS (C : Addr) (sp : Sp) (E : L2.St → XK) (t : TA) : TE := fun σ H Q => t σ H fun vs H1 => ∀ x dx, H1 x = none → H1 dx = none → dx ≠ x →
  sp (.ref x :: vs) (upd (upd H1 dx (.own x)) x (.ins C dx [])) (fun v H2 => v = .non ∧ Q (.ref x) H2) (E σ)
section
variable {X : Cx} {CX : CXT} {k : Nat} {f C : Addr} {fd : FuncData} {ps : List Str} {sp : Sp} {E : L2.St → XK} {x : Str} {p pos : Pos} {e : Expr} {es : List Expr} {t : TA}
theorem pe_makeS (M : Mk X.K C f) (F : FnOk X.prog X.w X.K X.mg X.base CX k f fd ps sp) (hr : Room (k + 1) X.A) (hg : Gl X x) (hm : X.mg x = some (.ref C)) (hb : L2.Binds X.K fd ps []) (hx : ∀ σ, PassesAt CX X σ (E σ))
    (ha : PA X (e :: es) t) (hdb : (x == ("__debug__" : Str)) = false := by decide) (he : starEach (e :: es) X.env = (false, eval e X.env) :: starEach es X.env := by rfl) (hpl : (backTo pos (starEach es X.env)).any (·.1) = false := by rfl) :
    PE X (.Call (.Name x p) (e :: es) [] pos) (tMakeS C sp E t) := by
  refine ⟨fun pins s σ H Q I h => ?_⟩
  refine wpAny_Call_Name_kw (ld_glob I hg hm ?_ hdb)
  refine PySem.W.callWith_K (h₀ := X.base) I.ok.mod.kin M.kp (thn (ha.run pos pins s σ H _ I h) fun us s1 ⟨vs, H1, I1, r, q⟩ => ⟨I1.kIn, ?_⟩) he hpl
  exact run_makeS M F hr hb (hx σ) I1 r q
end

/-! ### isinstance of the error that a suite holds -/
def rIsE1 (K : PySem.W.Frag) (D a : Addr) (cls : Value) (d : Option Addr) : List V → Hp → VK → Prop := fun xs H Q => ∃ (c : V) (cv : Value) (b : Bool), xs = [.ref a, c] ∧ cls = .ref D ∧ d = none ∧ (∀ u, RelV c u → u = cv) ∧ PySem.W.kitOne K (.ref D) cv = some b ∧ Q (.bl b) H
def rIsET (K : PySem.W.Frag) (D a : Addr) (cls : Value) (d : Option Addr) : List V → Hp → VK → Prop := fun xs H Q => ∃ (tp : Addr) (cs : List V) (us : List Value) (b : Bool), xs = [.ref a, .ref tp] ∧ cls = .ref D ∧ d = none ∧ H tp = some (.tup cs) ∧ Paired ClsV cs us ∧ PySem.W.kitAny K (.ref D) us = some b ∧ Q (.bl b) H
section
variable {X : Cx} {a D : Addr} {oe : Obj} {pn : List (Addr × Obj)} {cls : Value} {d : Option Addr}
theorem call_isE1 (C : ExcC X.K D) (hz : Zc cls d oe) (hf : ∃ vs, oe.data = .fields vs) : CallR (X.suite a ((a, oe) :: pn)) (.builtin "isinstance") (rIsE1 X.K D a cls d) := by
  intro pins s σ H xs us Q I r h
  obtain ⟨c, cv, b, e1, rfl, rfl, hcv, e, q⟩ := h
  exact call_isE C hz hf pins s σ H xs us Q I r ⟨c, cv, b, e1, hcv, e, q⟩
theorem call_isET (C : ExcC X.K D) (hz : Zc cls d oe) (hf : ∃ vs, oe.data = .fields vs) : CallR (X.suite a ((a, oe) :: pn)) (.builtin "isinstance") (rIsET X.K D a cls d) := by
  intro pins s σ H xs us Q I r h
  obtain ⟨tp, cs, ws, b, rfl, rfl, rfl, hT, k, e, q⟩ := h
  obtain ⟨u1, u2, rfl, r1, r2⟩ := vals2 r
  cases (show u1 = Value.ref a from r1)
  cases (show u2 = Value.ref tp from r2)
  obtain ⟨hget, _⟩ := I.pin (a, oe) (List.mem_append.mpr (.inl List.mem_cons_self))
  obtain ⟨vs, hv⟩ := hf
  have J : PySem.W.InstAt s.heap a oe D none := by
    obtain ⟨oc, od, oda, osl⟩ := oe
    obtain ⟨h1, h2⟩ := hz
    dsimp only at h1 h2 hv
    subst h1 h2 hv
    exact ⟨hget, rfl, rfl, trivial⟩
  obtain ⟨_, its, rv, o, h1, h2, n, h3⟩ := (show ObjOk X.prog X.w H s.heap tp (.tup cs) from I.hok tp _ hT)
  have e3 := ClsV.all k rv
  subst e3
  obtain ⟨oc, od, dt, sl⟩ := o
  simp only at h2 h3
  subst h2 h3
  exact PySem.W.kia_tup (PySem.W.handS_kitx_exc C.hg C.hk C.hs C.hd C.ha C.hn C.ht C.hm) I.kIn J h1 e (fun z => nomatch z) fun tk => ⟨.bl b, H, I.kept (t' := tk) fun _ _ z => z, rfl, q⟩
end

/-! ### small words -/
theorem same_new {H : Hp} {p : Addr} (h : H p = none) (o : HO) : Same H (upd H p o) := fun b u q => by rw [upd_ne (ne_of_none q h)]; exact q
theorem same_make {H : Hp} {x dx C : Addr} (nx : H x = none) (nd : H dx = none) : Same H (upd (upd H dx (.own x)) x (.ins C dx [])) := fun b o e => by
  rw [upd_ne (ne_of_none e nx), upd_ne (ne_of_none e nd)]
  exact e
theorem ite_no {c A B : Prop} [Decidable c] (hc : ¬ c) (h : B) : if c then A else B := by rw [if_neg hc]; exact h
theorem ite_yes {c A B : Prop} [Decidable c] (hc : c) (h : A) : if c then A else B := by rw [if_pos hc]; exact h
end Mine
set_option Elab.async false
set_option linter.all false
set_option maxRecDepth 100000
set_option maxHeartbeats 2000000
/-! Words of a text: names, numbers; an object that takes them one after the other. -/
namespace Pz
open PySem L2 Gm
def lets : Str := "abcdefghijklmnopqrstuvwxyz"
def digs : Str := "0123456789"
def letB (c : Nat) : Bool := decide (c ∈ lets.cps.toList)
def digB (c : Nat) : Bool := decide (c ∈ digs.cps.toList)
def keys : List Str := ["var", "table", "lots", "proc", "local", "set", "let", "draw", "put", "lot", "ask", "if", "else", "end", "bad", "after", "answer", "has", "cell", "mod"]
def signs (w : Str) : List Nat := w.cps.toList
def isName (w : Str) : Bool := decide (1 ≤ w.length ∧ w.length ≤ 12) && !decide (w ∈ keys) && (match signs w with | [] => false | c :: _ => letB c) && (signs w).all fun c => letB c || digB c
def numW (w : Str) : Nat := NumText.digitsVal (signs w)
def isNum (w : Str) : Bool := decide (1 ≤ w.length ∧ w.length ≤ 5) && (signs w).all digB && (match signs w with | [] => false | c :: _ => if c = 48 then decide (w = "0") else decide (numW w ≤ 65535))
theorem len_signs (w : Str) : (signs w).length = w.length := Array.length_toList
theorem digB_iff {c : Nat} : digB c = true ↔ 48 ≤ c ∧ c ≤ 57 := by
  unfold digB
  rw [decide_eq_true_iff, show digs.cps.toList = [48, 49, 50, 51, 52, 53, 54, 55, 56, 57] from by decide +kernel]
  simp only [List.mem_cons, List.not_mem_nil, or_false]
  omega
theorem num_text {w : Str} (h : (signs w).all digB = true) (h1 : 1 ≤ w.length) (h2 : w.length ≤ 5) : intText? w = some ((numW w : Nat) : Int) := by
  refine _root_.PySem.intText_digits (fun c hc => ?_) (fun z => ?_) (by omega)
  · exact digB_iff.mp (List.all_eq_true.mp h c hc)
  · have := len_signs w
    unfold signs at this
    rw [z] at this
    simp at this
    omega
theorem flat_strs : ∀ xs : List Str, (xs.map V.str).all flatV = true
  | [] => rfl
  | x :: xs => by rw [List.map_cons, List.all_cons, flat_strs xs]; rfl
theorem inV_strs (x : Str) : ∀ xs : List Str, inV (.str x) (xs.map V.str) = decide (x ∈ xs)
  | [] => rfl
  | y :: xs => by
    have ih := inV_strs x xs
    unfold inV at ih ⊢
    rw [List.map_cons, List.any_cons, ih]
    by_cases h : y = x
    · subst h
      rw [show eqV (.str y) (.str y) = true from by simp [eqV], Bool.true_or]
      exact (decide_eq_true List.mem_cons_self).symm
    · rw [show eqV (.str y) (.str x) = false from by simp [eqV, h], Bool.false_or]
      refine decide_eq_decide.mpr ⟨List.mem_cons_of_mem _, fun m => ?_⟩
      rcases List.mem_cons.mp m with e | e
      · exact absurd e.symm h
      · exact e
/-- the word at a place, the empty word behind the last one -/
def wd (ws : List Str) (i : Nat) : Str := ws.getD i Str.empty
/-- all but the object at p stands -/
def But (p : Addr) (H H' : Hp) : Prop := ∀ b o, H b = some o → b ≠ p → H' b = some o
theorem But.refl (p : Addr) (H : Hp) : But p H H := fun _ _ e _ => e
theorem But.trans {p : Addr} {H H1 H2 : Hp} (a : But p H H1) (b : But p H1 H2) : But p H H2 := fun c o e n => b c o (a c o e n) n
theorem But.same {p : Addr} {H H' : Hp} (s : Same H H') : But p H H' := fun b o e _ => s b o e
theorem But.upd {p : Addr} {H : Hp} {o : HO} : But p H (upd H p o) := fun b u e n => by rw [upd_ne n]; exact e
/-- an object that takes words: ws in the list at l, the next one i -/
structure WAt (C : Addr) (H : Hp) (p l : Addr) (ws : List Str) (i : Nat) : Prop where
  ob : ∃ dx fs, H p = some (.ins C dx fs) ∧ fs.lookup ("words" : Str) = some (.ref l) ∧ fs.lookup ("at" : Str) = some (.int i) ∧ (∀ m : Str, m ≠ "words" → m ≠ "at" → fs.lookup m = none) ∧ fs.length < 900
  li : H l = some (.lst (ws.map V.str))
  le : i ≤ ws.length
  sz : ws.length < 1000000
  wl : ∀ w ∈ ws, w.length ≤ 1000000
section
variable {C : Addr} {H H' : Hp} {p l : Addr} {ws : List Str} {i : Nat}
theorem WAt.ne (h : WAt C H p l ws i) : l ≠ p := fun e => by
  obtain ⟨dx, fs, e1, _⟩ := h.ob
  have e2 := h.li
  rw [e, e1] at e2
  cases e2
theorem WAt.same (h : WAt C H p l ws i) (s : Same H H') : WAt C H' p l ws i :=
  let ⟨dx, fs, e1, e2⟩ := h.ob
  ⟨⟨dx, fs, s _ _ e1, e2⟩, s _ _ h.li, h.le, h.sz, h.wl⟩
theorem But.tups {H H' : Hp} {p : Addr} {C : Addr} {dx : Addr} {fs : List (Str × V)} (b : But p H H') (h : H p = some (.ins C dx fs)) : Tups H H' := fun c o e k => b c o e fun z => by
  rw [z, h] at e
  cases e
  rcases k with ⟨_, z⟩ | ⟨_, _, z⟩ <;> cases z
theorem WAt.tups (h : WAt C H p l ws i) (b : But p H H') : Tups H H' :=
  let ⟨dx, fs, e1, _⟩ := h.ob
  b.tups e1
theorem wd_len (h : WAt C H p l ws i) : (wd ws i).length ≤ 1000000 := by
  unfold wd
  rw [List.getD_eq_getElem?_getD]
  cases e : ws[i]? with
  | none => exact Nat.zero_le _
  | some w => exact h.wl w (List.mem_of_getElem? e)
theorem putF_len {f : Str} {v x : V} : ∀ {fs : List (Str × V)}, fs.lookup f = some x → (putF f v fs).length = fs.length
  | [], h => by cases h
  | (g, y) :: r, h => by
    by_cases e : g = f
    · rw [putF, if_pos e] <;> rfl
    · have e2 : (f == g) = false := by
        cases z : f == g with
        | false => rfl
        | true => exact absurd (eq_of_beq z).symm e
      rw [putF, if_neg e, List.length_cons, List.length_cons, putF_len (fs := r) (by simpa [List.lookup, e2] using h)]
theorem WAt.lt_of (h : WAt C H p l ws i) (n : wd ws i ≠ Str.empty) : i < ws.length := by
  refine Nat.lt_of_le_of_ne h.le fun e => n ?_
  unfold wd
  rw [e, List.getD_eq_getElem?_getD, List.getElem?_eq_none (Nat.le_refl _)]
  rfl
theorem isNum_text {w : Str} (h : isNum w = true) : intText? w = some ((numW w : Nat) : Int) ∧ w.length ≤ 640 := by
  unfold isNum at h
  rw [Bool.and_eq_true, Bool.and_eq_true] at h
  have l := of_decide_eq_true h.1.1
  exact ⟨num_text h.1.2 l.1 l.2, by omega⟩
/-- the words that v offers -/
def Amg (K : PySem.W.Frag) (H : Hp) (v : V) (cs : List Str) : Prop :=
  ∃ a, v = .ref a ∧ (SqL K H a (cs.map V.str) ∨ SqT K H a (cs.map V.str) ∨ ∃ kvs, H a = some (.dK kvs) ∧ ∀ x : Str, (valV kvs (.inr x)).isSome = decide (x ∈ cs))
def rNotU (K : PySem.W.Frag) : R2 := fun x y H Q => rIn K true x y H Q ∨ ∃ a ov, y = .ref a ∧ DGet H a x ov ∧ Q (.bl (!ov.isSome)) H
theorem op_notU {X : Cx} (hu : X.A.units + 1 < cLine) : OpR X (compareOp .NotIn) (rNotU X.K) := by
  intro pins s σ H x y v u Q I rx ry h
  rcases h with h | ⟨a, ov, rfl, g, q⟩
  · exact op_notIn_seq pins s σ H x y v u Q I rx ry h
  · obtain rfl : u = Value.ref a := ry
    exact d_notIn hu I g rx fun s3 I3 => ⟨.bl (!ov.isSome), H, I3, rfl, q⟩
theorem Amg.notU {K : PySem.W.Frag} {H : Hp} {v : V} {cs : List Str} {x : Str} {Q : VK} (h : Amg K H v cs) (q : Q (.bl (!decide (x ∈ cs))) H) : rNotU K (.str x) v H Q := by
  obtain ⟨a, rfl, h | h | ⟨kvs, h, k⟩⟩ := h
  · refine .inl ⟨a, _, rfl, .inl h, rfl, flat_strs _, ?_⟩
    rw [if_pos rfl, inV_strs]
    exact q
  · refine .inl ⟨a, _, rfl, .inr h, rfl, flat_strs _, ?_⟩
    rw [if_pos rfl, inV_strs]
    exact q
  · refine .inr ⟨a, _, rfl, DGet.k (k := .inr x) h, ?_⟩
    rw [k x]
    exact q
/-- a text refused at the word i -/
def Ref (p B : Addr) (H : Hp) (i : Nat) (E : XK) : Prop := ∀ d H', But p H H' → H' d = some (.xd [("at", .int i)]) → E (.ref B) (some d) H'
theorem Ref.later {p B : Addr} {H H1 : Hp} {i : Nat} {E : XK} (h : Ref p B H i E) (b : But p H H1) : Ref p B H1 i E := fun d H' c e => h d H' (b.trans c) e
theorem WAt.nomt {m : Str} (h : WAt C H p l ws i) (h1 : m ≠ "words" := by decide) (h2 : m ≠ "at" := by decide) : ∃ dx fs, H p = some (.ins C dx fs) ∧ fs.lookup m = none :=
  let ⟨dx, fs, e1, _, _, e4, _⟩ := h.ob
  ⟨dx, fs, e1, e4 m h1 h2⟩
end
/-! ### what the methods promise -/
section
variable (C B : Addr)
def spEnded : Sp := fun vs H Q _ => ∃ (p l : Addr) (ws : List Str) (i : Nat), vs = [.ref p] ∧ WAt C H p l ws i ∧ Q (.bl (decide (i = ws.length))) H
def spAhead : Sp := fun vs H Q _ => ∃ (p l : Addr) (ws : List Str) (i : Nat), vs = [.ref p] ∧ WAt C H p l ws i ∧ Q (.str (wd ws i)) H
def toWords (x : Str) : List Str := if x.length = 0 then [] else Txt.split x " "
def spWords : Sp := fun vs H Q _ => ∃ (p dx : Addr) (x : Str), vs = [.ref p, .str x] ∧ H p = some (.ins C dx []) ∧ x.length ≤ 900000 ∧ (toWords x).length < 1000000 ∧ (∀ w ∈ toWords x, w.length ≤ 1000000) ∧
  ∀ l H', But p H H' → WAt C H' p l (toWords x) 0 → Q .non H'
def spRefuse : Sp := fun vs H _ E => ∃ (p l : Addr) (ws : List Str) (i : Nat), vs = [.ref p] ∧ WAt C H p l ws i ∧ Ref p B H i E
def spTake : Sp := fun vs H Q _ => ∃ (p l : Addr) (ws : List Str) (i : Nat), vs = [.ref p] ∧ WAt C H p l ws i ∧ i < ws.length ∧ ∀ H', But p H H' → WAt C H' p l ws (i + 1) → Q (.str (wd ws i)) H'
/-- one word is taken, or refused -/
def Tk1 (p l : Addr) (ws : List Str) (i : Nat) (H : Hp) (Q : V → Hp → Prop) (E : XK) (c : Bool) (y : V) : Prop := if c = true then ∀ H', But p H H' → WAt C H' p l ws (i + 1) → Q y H' else Ref p B H i E
def spOneOf (K : PySem.W.Frag) : Sp := fun vs H Q E => ∃ (p l : Addr) (ws : List Str) (i : Nat) (v : V) (cs : List Str), vs = [.ref p, v] ∧ WAt C H p l ws i ∧ Amg K H v cs ∧ Str.empty ∉ cs ∧ Tk1 C B p l ws i H Q E (decide (wd ws i ∈ cs)) (.str (wd ws i))
def spName (K : PySem.W.Frag) : Sp := fun vs H Q E => ∃ (p l : Addr) (ws : List Str) (i : Nat) (a : Addr) (cs : List Str), vs = [.ref p, .ref a] ∧ WAt C H p l ws i ∧ (SqL K H a (cs.map V.str) ∨ SqT K H a (cs.map V.str)) ∧ Tk1 C B p l ws i H Q E (isName (wd ws i) && !decide (wd ws i ∈ cs)) (.str (wd ws i))
def spNumber : Sp := fun vs H Q E => ∃ (p l : Addr) (ws : List Str) (i : Nat), ∃ lo hi : Int, vs = [.ref p, .int lo, .int hi] ∧ WAt C H p l ws i ∧ Tk1 C B p l ws i H Q E (isNum (wd ws i) && decide (lo ≤ (numW (wd ws i) : Nat) ∧ ((numW (wd ws i) : Nat) : Int) ≤ hi)) (.int (numW (wd ws i) : Nat))
def spFinish : Sp := fun vs H Q E => ∃ (p l : Addr) (ws : List Str) (i : Nat), vs = [.ref p] ∧ WAt C H p l ws i ∧ if i = ws.length then Q .non H else Ref p B H i E
end
/-! ### expressions: what is read -/
def looks : List Str := ["has", "cell"]
def lookEx (x t : Str) (e : Ex) : Ex := if x = "has" then .has t e else .cell t e
def pAtom (ws : List Str) (s : Sc) (i : Nat) : Except Nat (Ex × Nat) :=
  if isNum (wd ws i) = true then .ok (.num (numW (wd ws i) : Nat), i + 1)
  else if wd ws i ∈ s.vars then .ok (.var (wd ws i), i + 1)
  else if wd ws i ∈ s.locs then .ok (.loc (wd ws i), i + 1)
  else .error i
def pExpr (ws : List Str) (s : Sc) : Nat → Nat → Except Nat (Ex × Nat)
  | 0, i => pAtom ws s i
  | k + 1, i =>
    if wd ws i ∈ ops then
      match pExpr ws s k (i + 1) with
      | .error j => .error j
      | .ok (a, j) => match pExpr ws s k j with
        | .error m => .error m
        | .ok (b, m) => .ok (.op (wd ws i) a b, m)
    else if wd ws i ∈ looks ∧ s.tabs ≠ [] then
      if wd ws (i + 1) ∈ s.tabs then
        match pExpr ws s k (i + 2) with
        | .error j => .error j
        | .ok (e, j) => .ok (lookEx (wd ws i) (wd ws (i + 1)) e, j)
      else .error (i + 1)
    else pAtom ws s i
/-- the data of the words that are an expression by themselves -/
def MeanAt (K : PySem.W.Frag) (H : Hp) (m : Addr) (s : Sc) : Prop :=
  ∃ kvs, H m = some (.dK kvs) ∧ ∀ x : Str, (x ∈ s.vars → ∃ v, valV kvs (.inr x) = some v ∧ Dp K H v (Ex.var x).d) ∧ (x ∉ s.vars → x ∈ s.locs → ∃ v, valV kvs (.inr x) = some v ∧ Dp K H v (Ex.loc x).d) ∧
    (x ∉ s.vars → x ∉ s.locs → valV kvs (.inr x) = none)
section
variable {K : PySem.W.Frag} {C : Addr} {H H' : Hp} {p l m : Addr} {ws : List Str} {i : Nat} {s : Sc}
theorem WAt.other (h : WAt C H p l ws i) {a : Addr} {o : HO} (e : H a = some o) (n : ∀ C dx fs, o ≠ .ins C dx fs) : a ≠ p := fun z => by
  obtain ⟨dx, fs, e1, _⟩ := h.ob
  rw [z, e1] at e
  exact n _ _ _ (Option.some.inj e).symm
theorem WAt.sqL (h : WAt C H p l ws i) (b : But p H H') {a : Addr} {xs : List V} (e : SqL K H a xs) : SqL K H' a xs := by
  rcases e with (e | ⟨o, e⟩) | e
  · exact .inl (.inl (b _ _ e (h.other e fun _ _ _ z => by cases z)))
  · exact .inl (.inr ⟨o, b _ _ e (h.other e fun _ _ _ z => by cases z)⟩)
  · exact .inr e
theorem WAt.sqT (h : WAt C H p l ws i) (b : But p H H') {a : Addr} {xs : List V} (e : SqT K H a xs) : SqT K H' a xs := sqT_tups (h.tups b) e
theorem WAt.dp (h : WAt C H p l ws i) (b : But p H H') {v : V} (e : Ex) (d : Dp K H v e.d) : Dp K H' v e.d := dp_tups (h.tups b) _ _ (Ex.nol e) d
theorem WAt.mean (h : WAt C H p l ws i) (b : But p H H') (M : MeanAt K H m s) : MeanAt K H' m s := by
  obtain ⟨kvs, e, f⟩ := M
  refine ⟨kvs, b _ _ e (h.other e fun _ _ _ z => by cases z), fun x => ⟨fun hx => ?_, fun h1 h2 => ?_, (f x).2.2⟩⟩
  · obtain ⟨v, e1, d⟩ := (f x).1 hx
    exact ⟨v, e1, h.dp b _ d⟩
  · obtain ⟨v, e1, d⟩ := (f x).2.1 h1 h2
    exact ⟨v, e1, h.dp b _ d⟩
theorem MeanAt.amg (M : MeanAt K H m s) : Amg K H (.ref m) (s.vars ++ s.locs) := by
  obtain ⟨kvs, e, f⟩ := M
  refine ⟨m, rfl, .inr (.inr ⟨kvs, e, fun x => ?_⟩)⟩
  by_cases h1 : x ∈ s.vars
  · obtain ⟨v, e1, _⟩ := (f x).1 h1
    rw [e1]
    exact (decide_eq_true (List.mem_append_left _ h1)).symm
  · by_cases h2 : x ∈ s.locs
    · obtain ⟨v, e1, _⟩ := (f x).2.1 h1 h2
      rw [e1]
      exact (decide_eq_true (List.mem_append_right _ h2)).symm
    · rw [(f x).2.2 h1 h2]
      exact (decide_eq_false fun z => (List.mem_append.mp z).elim h1 h2).symm
end
/-- what is known of the names in scope -/
structure NoE (s : Sc) : Prop where
  v : Str.empty ∉ s.vars
  l : Str.empty ∉ s.locs
  t : Str.empty ∉ s.tabs
/-- how a reading of an expression ends -/
def ExEnd (C B : Addr) (K : PySem.W.Frag) (p l : Addr) (ws : List Str) (H : Hp) (Q : VK) (E : XK) : Except Nat (Ex × Nat) → Prop
  | .ok (e, j) => ∀ v H', But p H H' → WAt C H' p l ws j → Dp K H' v e.d → Q v H'
  | .error j => Ref p B H j E
def spExpr (C B : Addr) (K : PySem.W.Frag) (k : Nat) : Sp := fun vs H Q E => ∃ (p l m tb : Addr) (ws : List Str) (i : Nat) (s : Sc), vs = [.ref p, .ref m, .ref tb, .int (8 - (k : Int))] ∧ WAt C H p l ws i ∧ MeanAt K H m s ∧ SqL K H tb (s.tabs.map V.str) ∧ NoE s ∧
  ExEnd C B K p l ws H Q E (pExpr ws s k i)
theorem isNum_le {x : Str} (h : isNum x = true) : numW x ≤ 65535 := by
  unfold isNum at h
  rw [Bool.and_eq_true] at h
  have h2 := h.2
  cases e : signs x with
  | nil => rw [e] at h2; cases h2
  | cons c cs =>
    rw [e] at h2
    have h2 : (if c = 48 then decide (x = "0") else decide (numW x ≤ 65535)) = true := h2
    by_cases z : c = 48
    · rw [if_pos z] at h2
      have : x = "0" := of_decide_eq_true h2
      rw [this]
      decide +kernel
    · rw [if_neg z] at h2
      exact of_decide_eq_true h2
theorem dp_look {K : PySem.W.Frag} {H : Hp} {q : Addr} {x t : Str} {v : V} {e : Ex} (hq : H q = none) (h : x ∈ looks) (d : Dp K H v e.d) : Dp K (upd H q (.tup [.str x, .str t, v])) (.ref q) (lookEx x t e).d := by
  unfold lookEx
  rcases List.mem_cons.mp h with rfl | h
  · rw [if_pos rfl]
    unfold Ex.d
    exact dp_tup hq (.cons (.str _) (.cons (.str _) (.cons d .nil)))
  · obtain rfl := List.mem_singleton.mp h
    rw [if_neg (by decide +kernel)]
    unfold Ex.d
    exact dp_tup hq (.cons (.str _) (.cons (.str _) (.cons d .nil)))
/-- the statements behind two ifs, where both fall through -/
theorem tail_split {a a' : TT} {A A' B B' R : TS} {D : Ends} {σ : L2.St} {H : Hp} (c : Prop) (h : (c → R D σ H) → tSeq (tIfS a A A') (tSeq (tIfS a' B B') R) D σ H) (hr : c → R D σ H) : tSeq (tIfS a A A') (tSeq (tIfS a' B B') R) D σ H := h hr
end Pz
set_option Elab.async false
set_option linter.all false
set_option maxRecDepth 100000
set_option maxHeartbeats 4000000
/-! Games in the heap: what a value of data is made of, a Game object, lists that are cut. -/
namespace Gm
open PySem L2
open PyData (strOk)
theorem iteT2 {b : Bool} {A B : Prop} (hb : b = true) (h : A) : if b = true then A else B := by rw [if_pos hb]; exact h
theorem iteF2 {b : Bool} {A B : Prop} (hb : b = false) (h : B) : if b = true then A else B := by rw [if_neg (by rw [hb]; exact Bool.false_ne_true)]; exact h
/-! ### cuts -/
theorem cut_take (xs : List V) (k : Nat) : cutV xs none (some (k : Int)) = xs.take k := by
  unfold cutV
  have e : HT.sIx xs.length xs.length (some (k : Int)) = min k xs.length := by
    have : ¬ ((k : Int) < 0) := by omega
    simp [HT.sIx, this]
    try omega
  rw [e, show HT.sIx xs.length 0 none = 0 from rfl, List.drop_zero, Nat.sub_zero]
  by_cases h : k ≤ xs.length
  · rw [Nat.min_eq_left h]
  · rw [Nat.min_eq_right (by omega), List.take_length, List.take_of_length_le (by omega)]
theorem cut_drop (xs : List V) (k : Nat) : cutV xs (some (k : Int)) none = xs.drop k := by
  unfold cutV
  have e : HT.sIx xs.length 0 (some (k : Int)) = min k xs.length := by
    have : ¬ ((k : Int) < 0) := by omega
    simp [HT.sIx, this]
    try omega
  rw [e, show HT.sIx xs.length xs.length none = xs.length from rfl]
  by_cases h : k ≤ xs.length
  · rw [Nat.min_eq_left h, List.take_of_length_le (by rw [List.length_drop]; exact Nat.le_refl _)]
  · rw [Nat.min_eq_right (by omega), Nat.sub_self, List.take_zero, List.drop_eq_nil_of_le (by omega)]
/-! ### what data is made of -/
section
variable {K : PySem.W.Frag} {H : Hp} {v : V}
theorem dp_inv {ds : List PyData} (h : Dp K H v (.tuple ds)) : ∃ a xs, v = .ref a ∧ SqT K H a xs ∧ DpAll K H xs ds := by
  cases h with
  | tup hs ha => exact ⟨_, _, rfl, hs, ha⟩
theorem dps_cons {vs : List V} {d : PyData} {ds : List PyData} (h : DpAll K H vs (d :: ds)) : ∃ u r, vs = u :: r ∧ Dp K H u d ∧ DpAll K H r ds := by
  cases h with
  | cons h1 h2 => exact ⟨_, _, rfl, h1, h2⟩
theorem dps_nil {vs : List V} (h : DpAll K H vs []) : vs = [] := by
  cases h
  rfl
theorem dp_s {x : Str} (h : Dp K H v (.str x)) : v = .str x := by
  cases h
  rfl
theorem dp_i {x : Int} (h : Dp K H v (.int x)) : v = .int x := by
  cases h
  rfl
theorem dps_strs : ∀ {xs : List Str} {vs : List V}, DpAll K H vs (xs.map PyData.str) → vs = xs.map V.str
  | [], _, h => dps_nil h
  | x :: xs, _, h => by
    obtain ⟨u, r, rfl, h1, h2⟩ := dps_cons h
    rw [dp_s h1, dps_strs h2]
    rfl
theorem one_inv {d : PyData} (h : Dp K H v (.tuple [d])) : ∃ (a : Addr) (u : V), v = .ref a ∧ SqT K H a [u] ∧ Dp K H u d := by
  obtain ⟨a, xs, rfl, hs, dx⟩ := dp_inv h
  obtain ⟨u, r, rfl, d1, d2⟩ := dps_cons dx
  have e := dps_nil d2
  subst e
  exact ⟨a, u, rfl, hs, d1⟩
theorem two_inv {d e : PyData} (h : Dp K H v (.tuple [d, e])) : ∃ (a : Addr) (u z : V), v = .ref a ∧ SqT K H a [u, z] ∧ Dp K H u d ∧ Dp K H z e := by
  obtain ⟨a, xs, rfl, hs, dx⟩ := dp_inv h
  obtain ⟨u, r, rfl, d1, d2⟩ := dps_cons dx
  obtain ⟨z, r, rfl, d3, d4⟩ := dps_cons d2
  have e := dps_nil d4
  subst e
  exact ⟨a, u, z, rfl, hs, d1, d3⟩
theorem three_inv {d e f : PyData} (h : Dp K H v (.tuple [d, e, f])) : ∃ (a : Addr) (u z y : V), v = .ref a ∧ SqT K H a [u, z, y] ∧ Dp K H u d ∧ Dp K H z e ∧ Dp K H y f := by
  obtain ⟨a, xs, rfl, hs, dx⟩ := dp_inv h
  obtain ⟨u, r, rfl, d1, d2⟩ := dps_cons dx
  obtain ⟨z, r, rfl, d3, d4⟩ := dps_cons d2
  obtain ⟨y, r, rfl, d5, d6⟩ := dps_cons d4
  have e := dps_nil d6
  subst e
  exact ⟨a, u, z, y, rfl, hs, d1, d3, d5⟩
theorem four_inv {d e f g : PyData} (h : Dp K H v (.tuple [d, e, f, g])) : ∃ (a : Addr) (u z y x : V), v = .ref a ∧ SqT K H a [u, z, y, x] ∧ Dp K H u d ∧ Dp K H z e ∧ Dp K H y f ∧ Dp K H x g := by
  obtain ⟨a, xs, rfl, hs, dx⟩ := dp_inv h
  obtain ⟨u, r, rfl, d1, d2⟩ := dps_cons dx
  obtain ⟨z, r, rfl, d3, d4⟩ := dps_cons d2
  obtain ⟨y, r, rfl, d5, d6⟩ := dps_cons d4
  obtain ⟨x, r, rfl, d7, d8⟩ := dps_cons d6
  have e := dps_nil d8
  subst e
  exact ⟨a, u, z, y, x, rfl, hs, d1, d3, d5, d7⟩
/-- a procedure in the heap -/
theorem pr_inv {p : Pr} (h : Dp K H v p.d) : ∃ (a la ba : Addr) (r : V) (bs : List V), v = .ref a ∧ SqT K H a [.str p.name, .int p.size, .int p.ans, .ref la, .ref ba, r] ∧ SqT K H la (p.locs.map V.str) ∧ SqT K H ba bs ∧ DpAll K H bs (p.block.l.map Stm.d) ∧ Dp K H r p.res.d := by
  unfold Pr.d strD Blk.d at h
  obtain ⟨a, xs, rfl, hs, dx⟩ := dp_inv h
  obtain ⟨u1, r, rfl, d1, dx⟩ := dps_cons dx
  obtain ⟨u2, r, rfl, d2, dx⟩ := dps_cons dx
  obtain ⟨u3, r, rfl, d3, dx⟩ := dps_cons dx
  obtain ⟨u4, r, rfl, d4, dx⟩ := dps_cons dx
  obtain ⟨u5, r, rfl, d5, dx⟩ := dps_cons dx
  obtain ⟨u6, r, rfl, d6, dx⟩ := dps_cons dx
  have e := dps_nil dx
  subst e
  obtain ⟨la, ls, rfl, hl, dl⟩ := dp_inv d4
  obtain ⟨ba, bs, rfl, hb, db⟩ := dp_inv d5
  rw [dp_s d1, dp_i d2, dp_i d3] at hs
  rw [dps_strs dl] at hl
  rw [Blk.ds_l] at db
  exact ⟨a, la, ba, u6, bs, rfl, hs, hl, hb, db, d6⟩
theorem trip_inv {t : Str × Int × Int} (h : Dp K H v (trip t)) : ∃ a : Addr, v = .ref a ∧ SqT K H a [.str t.1, .int t.2.1, .int t.2.2] := by
  obtain ⟨a, u, z, y, rfl, hs, d1, d2, d3⟩ := three_inv h
  rw [dp_s d1, dp_i d2, dp_i d3] at hs
  exact ⟨a, rfl, hs⟩
theorem trips_inv {ts : List (Str × Int × Int)} (h : Dp K H v (trips ts)) : ∃ (a : Addr) (xs : List V), v = .ref a ∧ SqT K H a xs ∧ DpAll K H xs (ts.map trip) := dp_inv h
theorem num_inv {n : Int} (h : Dp K H v (Ex.num n).d) : ∃ a : Addr, v = .ref a ∧ SqT K H a [.str "number", .int n] := by
  obtain ⟨a, u, z, rfl, hs, d1, d2⟩ := two_inv h
  rw [dp_s d1, dp_i d2] at hs
  exact ⟨a, rfl, hs⟩
theorem loc_inv {x : Str} (h : Dp K H v (Ex.loc x).d) : ∃ a : Addr, v = .ref a ∧ SqT K H a [.str "local", .str x] := by
  obtain ⟨a, u, z, rfl, hs, d1, d2⟩ := two_inv h
  rw [dp_s d1, dp_s d2] at hs
  exact ⟨a, rfl, hs⟩
theorem var_inv {x : Str} (h : Dp K H v (Ex.var x).d) : ∃ a : Addr, v = .ref a ∧ SqT K H a [.str "variable", .str x] := by
  obtain ⟨a, u, z, rfl, hs, d1, d2⟩ := two_inv h
  rw [dp_s d1, dp_s d2] at hs
  exact ⟨a, rfl, hs⟩
theorem has_inv {t : Str} {e : Ex} (h : Dp K H v (Ex.has t e).d) : ∃ (a : Addr) (u : V), v = .ref a ∧ SqT K H a [.str "has", .str t, u] ∧ Dp K H u e.d := by
  obtain ⟨a, u, z, y, rfl, hs, d1, d2, d3⟩ := three_inv h
  rw [dp_s d1, dp_s d2] at hs
  exact ⟨a, y, rfl, hs, d3⟩
theorem cell_inv {t : Str} {e : Ex} (h : Dp K H v (Ex.cell t e).d) : ∃ (a : Addr) (u : V), v = .ref a ∧ SqT K H a [.str "cell", .str t, u] ∧ Dp K H u e.d := by
  obtain ⟨a, u, z, y, rfl, hs, d1, d2, d3⟩ := three_inv h
  rw [dp_s d1, dp_s d2] at hs
  exact ⟨a, y, rfl, hs, d3⟩
theorem op_inv {o : Str} {e f : Ex} (h : Dp K H v (Ex.op o e f).d) : ∃ (a : Addr) (u z : V), v = .ref a ∧ SqT K H a [.str o, u, z] ∧ Dp K H u e.d ∧ Dp K H z f.d := by
  obtain ⟨a, u, z, y, rfl, hs, d1, d2, d3⟩ := three_inv h
  rw [dp_s d1] at hs
  exact ⟨a, z, y, rfl, hs, d2, d3⟩
/-- the kind of an expression -/
def Ex.kind : Ex → Str
  | .num _ => "number" | .loc _ => "local" | .var _ => "variable" | .has _ _ => "has" | .cell _ _ => "cell" | .op o _ _ => o
theorem ex_inv {e : Ex} (h : Dp K H v e.d) : ∃ (a : Addr) (r : List V), v = .ref a ∧ SqT K H a (.str e.kind :: r) := by
  cases e with
  | num n => obtain ⟨a, rfl, hs⟩ := num_inv h; exact ⟨a, _, rfl, hs⟩
  | loc n => obtain ⟨a, rfl, hs⟩ := loc_inv h; exact ⟨a, _, rfl, hs⟩
  | var n => obtain ⟨a, rfl, hs⟩ := var_inv h; exact ⟨a, _, rfl, hs⟩
  | has t e => obtain ⟨a, u, rfl, hs, _⟩ := has_inv h; exact ⟨a, _, rfl, hs⟩
  | cell t e => obtain ⟨a, u, rfl, hs, _⟩ := cell_inv h; exact ⟨a, _, rfl, hs⟩
  | op o e f => obtain ⟨a, u, z, rfl, hs, _⟩ := op_inv h; exact ⟨a, _, rfl, hs⟩
theorem stm_inv {s : Stm} (h : Dp K H v s.d) : ∃ (a : Addr) (r : List V), v = .ref a ∧ SqT K H a (.str s.kind :: r) ∧ DpAll K H r s.args := by
  rw [Stm.d_kind] at h
  obtain ⟨a, xs, rfl, hs, dx⟩ := dp_inv h
  obtain ⟨u, r, rfl, d1, d2⟩ := dps_cons dx
  rw [dp_s d1] at hs
  exact ⟨a, r, rfl, hs, d2⟩
end
/-! ### a Game object -/
theorem g1_ : ¬ (("variables" : Str) = "tables") := by decide +kernel
theorem g2_ : ¬ (("variables" : Str) = "lots") := by decide +kernel
theorem g3_ : ¬ (("variables" : Str) = "procs") := by decide +kernel
theorem g4_ : ¬ (("tables" : Str) = "lots") := by decide +kernel
theorem g5_ : ¬ (("tables" : Str) = "procs") := by decide +kernel
theorem g6_ : ¬ (("lots" : Str) = "procs") := by decide +kernel
def gf (a b c d : V) : List (Str × V) := putF "procs" d (putF "lots" c (putF "tables" b (putF "variables" a [])))
section
variable (a b c d : V)
theorem gf_procs : (gf a b c d).lookup ("procs" : Str) = some d := by unfold gf; rw [lookup_putF, if_pos rfl]
theorem gf_lots : (gf a b c d).lookup ("lots" : Str) = some c := by unfold gf; rw [lookup_putF, if_neg g6_, lookup_putF, if_pos rfl]
theorem gf_tables : (gf a b c d).lookup ("tables" : Str) = some b := by unfold gf; rw [lookup_putF, if_neg g5_, lookup_putF, if_neg g4_, lookup_putF, if_pos rfl]
theorem gf_variables : (gf a b c d).lookup ("variables" : Str) = some a := by unfold gf; rw [lookup_putF, if_neg g3_, lookup_putF, if_neg g2_, lookup_putF, if_neg g1_, lookup_putF, if_pos rfl]
theorem gf_no {m : Str} (h1 : ¬ m = "variables") (h2 : ¬ m = "tables") (h3 : ¬ m = "lots") (h4 : ¬ m = "procs") : (gf a b c d).lookup m = none := by
  unfold gf
  rw [lookup_putF, if_neg h4, lookup_putF, if_neg h3, lookup_putF, if_neg h2, lookup_putF, if_neg h1]
  all_goals rfl
theorem gf_proc : (gf a b c d).lookup ("proc" : Str) = none := gf_no a b c d (by decide +kernel) (by decide +kernel) (by decide +kernel) (by decide +kernel)
end
/-- the object g is the game G -/
def GmD (K : PySem.W.Frag) (C : Addr) (H : Hp) (g : Addr) (G : Ga) : Prop := ∃ dx a b c d, H g = some (.ins C dx (gf a b c d)) ∧ Dp K H a (trips G.vars) ∧ Dp K H b (trips G.tabs) ∧ Dp K H c (trips G.lots) ∧ Dp K H d (.tuple (G.procs.map Pr.d))
theorem GmD.same {K : PySem.W.Frag} {C : Addr} {H H' : Hp} {g : Addr} {G : Ga} (h : GmD K C H g G) (s : Same H H') : GmD K C H' g G :=
  let ⟨dx, a, b, c, d, h0, h1, h2, h3, h4⟩ := h
  ⟨dx, a, b, c, d, s _ _ h0, dp_mono s _ _ h1, dp_mono s _ _ h2, dp_mono s _ _ h3, dp_mono s _ _ h4⟩
/-- the procedure with a name -/
def Ga.proc (G : Ga) (n : Str) : Option Pr := G.procs.find? fun p => decide (p.name = n)
theorem find_at {ps : List Pr} {n : Str} : ∀ {i : Nat} {p : Pr}, (∀ q ∈ ps.take i, q.name ≠ n) → ps[i]? = some p → p.name = n → ps.find? (fun p => decide (p.name = n)) = some p := by
  induction ps with
  | nil => intro i p _ h; simp at h
  | cons a ps ih =>
    intro i p h e hp
    match i with
    | 0 =>
      have e' : a = p := Option.some.inj e
      subst e'
      rw [List.find?_cons, decide_eq_true hp]
    | i + 1 =>
      have ha := h a (by simp)
      rw [List.find?_cons, decide_eq_false ha]
      exact ih (i := i) (fun q hq => h q (by simp [hq])) e hp
theorem find_no {ps : List Pr} {n : Str} (h : ∀ q ∈ ps, q.name ≠ n) : ps.find? (fun p => decide (p.name = n)) = none := by
  rw [List.find?_eq_none]
  intro x hx
  simp [h x hx]
theorem Ga.proc_mem {G : Ga} {n : Str} {p : Pr} (h : G.proc n = some p) : p ∈ G.procs ∧ p.name = n := ⟨List.mem_of_find?_eq_some h, of_decide_eq_true (by have := List.find?_some h; exact this)⟩
/-- the statement k of a procedure -/
def Ga.At (G : Ga) (n : Str) (k : Int) (p : Pr) (j : Nat) (s : Stm) : Prop := G.proc n = some p ∧ k = (j : Int) ∧ p.block.l[j]? = some s
/-- a procedure in the place of those with its name -/
def Ga.put (G : Ga) (p : Pr) : Ga := { G with procs := G.procs.map fun q => if q.name = p.name then p else q }
def Pr.repl (p : Pr) (at_ many : Nat) (ss : List Stm) : Pr := { p with block := Blk.of (p.block.l.take at_ ++ ss ++ p.block.l.drop (at_ + many)) }
/-! ### equal games -/
theorem trip_inj {s t : Str × Int × Int} (h : trip s = trip t) : s = t := by
  obtain ⟨a, b, c⟩ := s
  obtain ⟨x, y, z⟩ := t
  unfold trip at h
  injection h with h
  injection h with h1 h
  injection h with h2 h
  injection h with h3 h
  injection h1 with h1
  injection h2 with h2
  injection h3 with h3
  dsimp only at h1 h2 h3
  rw [h1, h2, h3]
theorem map_inj {α β : Type} {f : α → β} (hf : ∀ a b, f a = f b → a = b) : ∀ {xs ys : List α}, xs.map f = ys.map f → xs = ys
  | [], [], _ => rfl
  | [], _ :: _, h => by cases h
  | _ :: _, [], h => by cases h
  | x :: xs, y :: ys, h => by
    rw [List.map_cons, List.map_cons] at h
    injection h with h1 h2
    rw [hf _ _ h1, map_inj hf h2]
theorem trips_inj {s t : List (Str × Int × Int)} (h : trips s = trips t) : s = t := by
  unfold trips at h
  injection h with h
  exact map_inj (fun _ _ => trip_inj) h
theorem str_inj' : ∀ a b : Str, PyData.str a = PyData.str b → a = b := fun a b h => by injection h
theorem Pr.inj (p q : Pr) (h : p.d = q.d) : p = q := by
  unfold Pr.d strD Blk.d at h
  injection h with h
  injection h with h1 h
  injection h with h2 h
  injection h with h3 h
  injection h with h4 h
  injection h with h5 h
  injection h with h6 h
  injection h1 with h1
  injection h2 with h2
  injection h3 with h3
  injection h4 with h4
  injection h5 with h5
  have e4 := map_inj str_inj' h4
  have e5 := Blk.inj _ _ h5
  have e6 := Ex.inj _ _ h6
  cases p
  cases q
  dsimp only at h1 h2 h3 e4 e5 e6
  subst h1 h2 h3 e4 e5 e6
  rfl
theorem procs_inj {s t : List Pr} (h : PyData.tuple (s.map Pr.d) = PyData.tuple (t.map Pr.d)) : s = t := by
  injection h with h
  exact map_inj Pr.inj h
theorem Ga.ext {G F : Ga} (h1 : G.vars = F.vars) (h2 : G.tabs = F.tabs) (h3 : G.lots = F.lots) (h4 : G.procs = F.procs) : G = F := by
  cases G
  cases F
  dsimp only at h1 h2 h3 h4
  subst h1 h2 h3 h4
  rfl
theorem Ga.inj {G F : Ga} (h : G.d = F.d) : G = F := by
  unfold Ga.d at h
  injection h with h
  injection h with h1 h
  injection h with h2 h
  injection h with h3 h
  injection h with h4 h
  exact Ga.ext (trips_inj h1) (trips_inj h2) (trips_inj h3) (procs_inj h4)
/-! ### what expressions read -/
/-- an expression and all in it -/
def Ex.subs : Ex → List Ex
  | .num n => [.num n]
  | .loc x => [.loc x]
  | .var x => [.var x]
  | .has t e => .has t e :: e.subs
  | .cell t e => .cell t e :: e.subs
  | .op o a b => .op o a b :: (a.subs ++ b.subs)
def Ex.rd1 : Ex → Option (Str × Str)
  | .loc x => some ("local", x)
  | .var x => some ("variable", x)
  | .has t _ => some ("table", t)
  | .cell t _ => some ("table", t)
  | _ => none
def Ex.reads (e : Ex) : List (Str × Str) := e.subs.filterMap Ex.rd1
def plD (p : Str × Str) : PyData := .tuple [.str p.1, .str p.2]
theorem plD_inj {p q : Str × Str} (h : plD p = plD q) : p = q := by
  obtain ⟨a, b⟩ := p
  obtain ⟨c, d⟩ := q
  unfold plD at h
  injection h with h
  injection h with h1 h
  injection h with h2 h
  injection h1 with h1
  injection h2 with h2
  dsimp only at h1 h2
  rw [h1, h2]
theorem Ex.subs_len : ∀ {k : Nat} {e : Ex}, exF k e → e.subs.length + 1 ≤ 2 ^ k
  | 0, _, h => h.elim
  | k + 1, .num n, _ => by have := Nat.one_le_two_pow (n := k); rw [Nat.pow_succ]; show 2 ≤ _; omega
  | k + 1, .loc n, _ => by have := Nat.one_le_two_pow (n := k); rw [Nat.pow_succ]; show 2 ≤ _; omega
  | k + 1, .var n, _ => by have := Nat.one_le_two_pow (n := k); rw [Nat.pow_succ]; show 2 ≤ _; omega
  | k + 1, .has t e, h => by
    have := Ex.subs_len h.2
    have := Nat.one_le_two_pow (n := k)
    unfold Ex.subs
    rw [List.length_cons, Nat.pow_succ]
    omega
  | k + 1, .cell t e, h => by
    have := Ex.subs_len h.2
    have := Nat.one_le_two_pow (n := k)
    unfold Ex.subs
    rw [List.length_cons, Nat.pow_succ]
    omega
  | k + 1, .op o a b, h => by
    have h1 := Ex.subs_len h.2.1
    have h2 := Ex.subs_len h.2.2
    unfold Ex.subs
    rw [List.length_cons, List.length_append, Nat.pow_succ]
    omega
theorem Ex.subs_fit : ∀ {k : Nat} {e : Ex}, exF k e → ∀ x ∈ e.subs, exF k x
  | 0, _, h, _, _ => h.elim
  | k + 1, .num n, h, x, hx => by rw [List.mem_singleton.mp hx]; exact h
  | k + 1, .loc n, h, x, hx => by rw [List.mem_singleton.mp hx]; exact h
  | k + 1, .var n, h, x, hx => by rw [List.mem_singleton.mp hx]; exact h
  | k + 1, .has t e, h, x, hx => by
    rcases List.mem_cons.mp hx with rfl | hx
    · exact h
    · exact (Ex.subs_fit h.2 x hx).mono (by omega)
  | k + 1, .cell t e, h, x, hx => by
    rcases List.mem_cons.mp hx with rfl | hx
    · exact h
    · exact (Ex.subs_fit h.2 x hx).mono (by omega)
  | k + 1, .op o a b, h, x, hx => by
    rcases List.mem_cons.mp hx with rfl | hx
    · exact h
    rcases List.mem_append.mp hx with hx | hx
    · exact (Ex.subs_fit h.2.1 x hx).mono (by omega)
    · exact (Ex.subs_fit h.2.2 x hx).mono (by omega)
theorem nolAll_ex : ∀ es : List Ex, nolAll (es.map Ex.d) = true
  | [] => rfl
  | e :: es => by show (nol e.d && nolAll (es.map Ex.d)) = true; rw [nolAll_ex es, Ex.nol]; rfl
theorem nolAll_pl : ∀ es : List (Str × Str), nolAll (es.map plD) = true
  | [] => rfl
  | e :: es => by show (nol (plD e) && nolAll (es.map plD)) = true; rw [nolAll_pl es]; rfl
/-- a list of data that grows by many -/
theorem Acc.ext {K : PySem.W.Frag} {H0 H : Hp} {l : Addr} {vs us : List V} {ds es : List PyData} (a : Acc K H0 H l vs ds) (hd : DpAll K H us es) (hn : nolAll es = true) : Acc K H0 (upd H l (.lst (vs ++ us))) l (vs ++ us) (ds ++ es) := by
  have tp : Tups H (upd H l (.lst (vs ++ us))) := Tups.lst a.l
  refine ⟨fun b o e => by rw [upd_ne (ne_of_none e a.f)]; exact a.s _ _ e, a.f, upd_same, DpAll.app (dp_tupsAll tp _ _ a.n a.d) (dp_tupsAll tp _ _ hn hd), ?_⟩
  rw [nolAll_app, a.n, hn]
  rfl
/-! ### texts and numbers in a tuple -/
theorem in_ints (x : Int) : ∀ xs : List Int, inV (.int x) (xs.map V.int) = decide (x ∈ xs)
  | [] => rfl
  | y :: xs => by
    have ih := in_ints x xs
    unfold inV at ih ⊢
    rw [List.map_cons, List.any_cons, ih]
    by_cases h : y = x
    · subst h
      rw [show eqV (.int y) (.int y) = true from by simp [eqV], Bool.true_or]
      exact (decide_eq_true List.mem_cons_self).symm
    · rw [show eqV (.int y) (.int x) = false from by simp [eqV, h], Bool.false_or]
      refine decide_eq_decide.mpr ⟨List.mem_cons_of_mem _, fun m => ?_⟩
      rcases List.mem_cons.mp m with e | e
      · exact absurd e.symm h
      · exact e
theorem flat_ints : ∀ xs : List Int, (xs.map V.int).all flatV = true
  | [] => rfl
  | x :: xs => by rw [List.map_cons, List.all_cons, flat_ints xs]; rfl
/-- an expression's kind, when it is an operator -/
theorem kind_op {k : Nat} {e : Ex} (h : exF k e) : (e.kind ∈ ops ↔ ∃ o a b, e = .op o a b) := by
  match k, e, h with
  | 0, _, h => exact h.elim
  | k + 1, .op o a b, h => exact ⟨fun _ => ⟨o, a, b, rfl⟩, fun _ => h.1⟩
  | k + 1, .num n, h => exact ⟨fun z => absurd (show ("number" : Str) ∈ ops from z) (by decide +kernel), fun ⟨_, _, _, z⟩ => by cases z⟩
  | k + 1, .loc n, h => exact ⟨fun z => absurd (show ("local" : Str) ∈ ops from z) (by decide +kernel), fun ⟨_, _, _, z⟩ => by cases z⟩
  | k + 1, .var n, h => exact ⟨fun z => absurd (show ("variable" : Str) ∈ ops from z) (by decide +kernel), fun ⟨_, _, _, z⟩ => by cases z⟩
  | k + 1, .has t n, h => exact ⟨fun z => absurd (show ("has" : Str) ∈ ops from z) (by decide +kernel), fun ⟨_, _, _, z⟩ => by cases z⟩
  | k + 1, .cell t n, h => exact ⟨fun z => absurd (show ("cell" : Str) ∈ ops from z) (by decide +kernel), fun ⟨_, _, _, z⟩ => by cases z⟩
def isShift (e : Ex) (l : Str) (n : Int) : Prop := ∃ y, e = .op "mod" (.op "+" (.loc l) y) (.num n) ∧ (("local" : Str), l) ∉ y.reads
theorem FitAll.take {n : Nat} : ∀ {ds : List PyData} {k : Nat}, FitAll n ds → FitAll n (ds.take k)
  | [], k, h => by rw [List.take_nil]; exact h
  | d :: ds, 0, _ => .nil
  | d :: ds, k + 1, h => by
    have h' : (pln d && plnAll ds) = true := h.1
    rw [Bool.and_eq_true] at h'
    have h2 := h.2
    rw [PyData.depthAll] at h2
    have h3 := Nat.max_le.mp h2
    exact .cons ⟨h'.1, h3.1⟩ (FitAll.take ⟨h'.2, h3.2⟩)
theorem DpAll.take {K : PySem.W.Frag} {H : Hp} : ∀ {vs : List V} {ds : List PyData} (k : Nat), DpAll K H vs ds → DpAll K H (vs.take k) (ds.take k)
  | _, _, 0, _ => by rw [List.take_zero, List.take_zero]; exact .nil
  | _, _, _ + 1, .nil => .nil
  | _, _, k + 1, .cons h t => .cons h (DpAll.take k t)
theorem DpAll.drop {K : PySem.W.Frag} {H : Hp} : ∀ {vs : List V} {ds : List PyData} (k : Nat), DpAll K H vs ds → DpAll K H (vs.drop k) (ds.drop k)
  | _, _, 0, h => h
  | _, _, _ + 1, .nil => .nil
  | _, _, k + 1, .cons _ t => DpAll.drop k t
theorem rd1_ok {k : Nat} {e : Ex} {p : Str × Str} (h : exF k e) (hp : e.rd1 = some p) : strOk p.1 = true ∧ strOk p.2 = true := by
  match k, e, h with
  | 0, _, h => exact h.elim
  | k + 1, .num n, h => cases hp
  | k + 1, .op o a b, h => cases hp
  | k + 1, .loc x, h => cases hp; exact ⟨strOk_lit.2.1, nm_ok h⟩
  | k + 1, .var x, h => cases hp; exact ⟨strOk_lit.2.2.1, nm_ok h⟩
  | k + 1, .has t x, h => cases hp; exact ⟨(by decide +kernel : strOk "table" = true), nm_ok h.1⟩
  | k + 1, .cell t x, h => cases hp; exact ⟨(by decide +kernel : strOk "table" = true), nm_ok h.1⟩
theorem reads_ok {k : Nat} {e : Ex} (h : exF k e) : ∀ p ∈ e.reads, strOk p.1 = true ∧ strOk p.2 = true := fun p hp => by
  obtain ⟨x, hx, e1⟩ := List.mem_filterMap.mp hp
  exact rd1_ok (Ex.subs_fit h x hx) e1
theorem fit_pl {n : Nat} {p : Str × Str} (h : strOk p.1 = true ∧ strOk p.2 = true) : Fit (n + 1) (plD p) := (FitAll.cons (.str h.1) (.cons (.str h.2) .nil)).tup
theorem fit_pls {n : Nat} {ps : List (Str × Str)} (h : ∀ p ∈ ps, strOk p.1 = true ∧ strOk p.2 = true) : Fit (n + 2) (.list (ps.map plD)) := FitAll.lst (FitAll.of fun d hd => by
  obtain ⟨p, hp, rfl⟩ := List.mem_map.mp hd
  exact fit_pl (h p hp))
theorem any_pl {p : Str × Str} {ps : List (Str × Str)} (hp : strOk p.1 = true ∧ strOk p.2 = true) (h : ∀ p ∈ ps, strOk p.1 = true ∧ strOk p.2 = true) : (((ps.map plD).any fun z => PyData.eqv z (plD p)) = true ↔ p ∈ ps) := by
  rw [List.any_eq_true]
  constructor
  · rintro ⟨z, hz, e⟩
    obtain ⟨q, hq, rfl⟩ := List.mem_map.mp hz
    rw [← plD_inj ((eqv_iff (fit_pl (n := 0) (h q hq)).1 (fit_pl (n := 0) hp).1).mp e)]
    exact hq
  · intro m
    exact ⟨_, List.mem_map.mpr ⟨p, m, rfl⟩, (eqv_iff (fit_pl (n := 0) hp).1 (fit_pl (n := 0) hp).1).mpr rfl⟩
theorem exF_op {k : Nat} {o : Str} {a b : Ex} (h : exF k (.op o a b)) : ∃ j, k = j + 1 ∧ exF j a ∧ exF j b ∧ o ∈ ops := by
  match k, h with
  | j + 1, h => exact ⟨j, rfl, h.2.1, h.2.2, h.1⟩
/-- an expression whose kind is an operator's is that operator -/
theorem kind_is {e : Ex} {o : Str} (h : e.kind = o) (ho : o ∈ ops) : ∃ a b, e = .op o a b := by
  cases e with
  | op p a b => exact ⟨a, b, by rw [show p = o from h]⟩
  | num n => exact absurd (show ("number" : Str) ∈ ops from by rw [show ("number" : Str) = o from h]; exact ho) (by decide +kernel)
  | loc n => exact absurd (show ("local" : Str) ∈ ops from by rw [show ("local" : Str) = o from h]; exact ho) (by decide +kernel)
  | var n => exact absurd (show ("variable" : Str) ∈ ops from by rw [show ("variable" : Str) = o from h]; exact ho) (by decide +kernel)
  | has t n => exact absurd (show ("has" : Str) ∈ ops from by rw [show ("has" : Str) = o from h]; exact ho) (by decide +kernel)
  | cell t n => exact absurd (show ("cell" : Str) ∈ ops from by rw [show ("cell" : Str) = o from h]; exact ho) (by decide +kernel)
/-- a place as a text -/
def usT (p : Str × Str) : Str := p.1 ++ " " ++ p.2
theorem kinds_rd {e : Ex} {p : Str × Str} (h : e.rd1 = some p) : p.1 = "local" ∨ p.1 = "variable" ∨ p.1 = "table" := by
  cases e <;> first | (cases h; simp) | cases h
theorem usT_tl (p : Str × Str) : TL.tl (usT p) = TL.tl p.1 ++ 32 :: TL.tl p.2 := by
  unfold usT
  rw [TL.tl_append, TL.tl_append, show TL.tl " " = [32] from by decide +kernel, List.append_assoc]
  rfl
theorem usT_inj {p : Str × Str} {l : Str} (hk : p.1 = "local" ∨ p.1 = "variable" ∨ p.1 = "table") (h : usT p = usT (("local" : Str), l)) : p = ((("local" : Str), l) : Str × Str) := by
  obtain ⟨k, x⟩ := p
  have h := congrArg TL.tl h
  rw [usT_tl, usT_tl] at h
  have e1 : TL.tl "local" = [108, 111, 99, 97, 108] := by decide +kernel
  have e2 : TL.tl "variable" = [118, 97, 114, 105, 97, 98, 108, 101] := by decide +kernel
  have e3 : TL.tl "table" = [116, 97, 98, 108, 101] := by decide +kernel
  dsimp only at hk h
  rcases hk with hk | hk | hk <;> subst hk
  · rw [e1] at h
    have h : TL.tl x = TL.tl l := by injection h with _ h; injection h with _ h; injection h with _ h; injection h with _ h; injection h with _ h; injection h with _ h
    rw [TL.ext_tl h]
  · rw [e1, e2] at h
    simp at h
  · rw [e1, e3] at h
    simp at h
theorem reads_us {e : Ex} {l : Str} : usT (("local" : Str), l) ∈ e.reads.map usT ↔ (("local" : Str), l) ∈ e.reads := by
  constructor
  · intro h
    obtain ⟨p, hp, e1⟩ := List.mem_map.mp h
    obtain ⟨x, hx, e2⟩ := List.mem_filterMap.mp hp
    rw [← usT_inj (kinds_rd e2) e1]
    exact hp
  · intro h
    exact List.mem_map.mpr ⟨_, h, rfl⟩
theorem reads_len {k : Nat} {e : Ex} (h : exF k e) (hk : k ≤ 12) : e.reads.length ≤ 4096 := by
  have h1 := Ex.subs_len h
  have h2 := List.length_filterMap_le Ex.rd1 e.subs
  have h3 : (2 : Nat) ^ k ≤ 2 ^ 12 := Nat.pow_le_pow_right (by decide) hk
  have h4 : (2 : Nat) ^ 12 = 4096 := by decide
  unfold Ex.reads
  omega
theorem reads_op {o : Str} {a b : Ex} : (Ex.op o a b).reads = a.reads ++ b.reads := by
  unfold Ex.reads
  rw [show (Ex.op o a b).subs = .op o a b :: (a.subs ++ b.subs) from rfl, List.filterMap_cons_none rfl, List.filterMap_append]
theorem reads_has {t : Str} {a : Ex} : (Ex.has t a).reads = (("table" : Str), t) :: a.reads := by
  unfold Ex.reads
  rw [show (Ex.has t a).subs = .has t a :: a.subs from rfl]
  exact List.filterMap_cons_some (f := Ex.rd1) (b := (("table" : Str), t)) rfl
theorem reads_cell {t : Str} {a : Ex} : (Ex.cell t a).reads = (("table" : Str), t) :: a.reads := by
  unfold Ex.reads
  rw [show (Ex.cell t a).subs = .cell t a :: a.subs from rfl]
  exact List.filterMap_cons_some (f := Ex.rd1) (b := (("table" : Str), t)) rfl
/-- another block and other locals in the procedure with a name -/
def Ga.setB (G : Ga) (n : Str) (locs : List Str) (b : Blk) : Ga := { G with procs := G.procs.map fun q => if q.name = n then { q with locs := locs, block := b } else q }
end Gm
set_option Elab.async false
set_option linter.all false
set_option maxRecDepth 100000
set_option maxHeartbeats 4000000
/-! Games whose procedures are changed; picks; the rest of a suite stated once. -/
namespace Gm
open PySem L2
open PyData (strOk)
theorem pick_ix {vs : List V} {r : Int} (h : 0 < vs.length) : ∃ (i : Nat) (v : V), vs[i]? = some v ∧ atI vs (r % ((vs.length : Nat) : Int)) = some v := by
  have h0 := Int.emod_nonneg r (by omega : (vs.length : Int) ≠ 0)
  have h1 := Int.emod_lt_of_pos r (by omega : (0 : Int) < vs.length)
  have hk : (r % (vs.length : Int)).toNat < vs.length := by omega
  exact ⟨_, _, List.getElem?_eq_getElem hk, at_of (j := (r % (vs.length : Int)).toNat) (by omega) (List.getElem?_eq_getElem hk)⟩
theorem if_and {c d : Bool} {A : Prop} {Q : VK} {H : Hp} (hA : Q (.bl d) H → A) (h : Q (.bl (c && d)) H) : if c = true then A else Q (.bl false) H := by
  cases c
  · exact iteF2 rfl h
  · exact iteT2 rfl (hA h)
/-- the rest behind an assignment, stated once -/
theorem asg_k {te : TE} {g : TG} {v : TS} {D : Ends} {σ : L2.St} {H : Hp} (I : V → Hp → Prop) (rest : ∀ x H', I x H' → g x σ H' (v D)) (h : (∀ x H', I x H' → g x σ H' (v D)) → te σ H fun x H' => g x σ H' (v D)) : tSeq (tAsg te g) v D σ H := h rest
/-- the rest behind an if, stated once -/
theorem seq_k {c : TT} {t u v : TS} {D : Ends} {σ : L2.St} {H : Hp} (I : L2.St → Hp → Prop) (rest : ∀ σ H, I σ H → v D σ H) (h : (∀ σ H, I σ H → v D σ H) → tSeq (tIfS c t u) v D σ H) : tSeq (tIfS c t u) v D σ H := h rest
/-- a name is given its value -/
theorem gn {i : Nat} {v : V} {σ : L2.St} {H : Hp} {Q : L2.St → Hp → Prop} (h : Q (σ.set i (some v)) H) : gName i v σ H Q := h
/-- the rest, from what is known -/
theorem rest_k {v : TS} {D : Ends} {σ : L2.St} {H : Hp} (I : L2.St → Hp → Prop) (rest : ∀ σ H, I σ H → v D σ H) (h : I σ H) : v D σ H := rest σ H h
theorem ScN.ofGa {g : Ga} (h : GaOk g) {q : Pr} (hq : q ∈ g.procs) : ScN (g.sc q.locs []) := by
  have v : ∀ x ∈ g.vars.map (·.1), nmB x = true := fun x hx => by
    rcases h.vars with e | e | e <;> rw [e] at hx <;> exact all_nm (by decide +kernel) x hx
  have t : ∀ x ∈ g.tabs.map (·.1), nmB x = true := fun x hx => by
    rcases h.tabs with e | e | e <;> rw [e] at hx <;> exact all_nm (by decide +kernel) x hx
  have o : ∀ x ∈ g.lots.map (·.1), nmB x = true := fun x hx => by
    rcases h.lots with e | e | e <;> rw [e] at hx <;> exact all_nm (by decide +kernel) x hx
  have l : ∀ x ∈ q.locs, nmB x = true := fun x hx => by
    rcases (h.proc q hq).locs with e | e <;> rw [e] at hx <;> exact all_nm (by decide +kernel) x hx
  exact ⟨l, v, t, o, fun x h => nomatch h⟩
/-! ### names of procedures -/
/-- no two procedures have one name -/
def Uniq (ps : List Pr) : Prop := ∀ p ∈ ps, ∀ q ∈ ps, p.name = q.name → p = q
theorem Uniq.of {ps : List Pr} (h : (ps.map (·.name)).Nodup) : Uniq ps := by
  induction ps with
  | nil => intro p hp; cases hp
  | cons a ps ih =>
    rw [List.map_cons, List.nodup_cons] at h
    intro p hp q hq e
    rcases List.mem_cons.mp hp with e1 | hp' <;> rcases List.mem_cons.mp hq with e2 | hq'
    · rw [e1, e2]
    · exact (h.1 (List.mem_map.mpr ⟨q, hq', by rw [← e, e1]⟩)).elim
    · exact (h.1 (List.mem_map.mpr ⟨p, hp', by rw [e, e2]⟩)).elim
    · exact ih h.2 p hp' q hq' e
theorem Uniq.ofOk {g : Ga} (h : GaOk g) : Uniq g.procs := by
  refine Uniq.of ?_
  rcases h.procs with e | e <;> rw [e] <;> decide +kernel
theorem Uniq.proc {G : Ga} (h : Uniq G.procs) {p : Pr} (hp : p ∈ G.procs) : G.proc p.name = some p := by
  cases e : G.proc p.name with
  | none =>
    have := List.find?_eq_none.mp e p hp
    simp at this
  | some q =>
    have hq := Ga.proc_mem e
    rw [h q hq.1 p hp hq.2]
/-- the procedures, each in a new form that keeps its name -/
theorem find_map {ps : List Pr} {f : Pr → Pr} (hf : ∀ p, (f p).name = p.name) (n : Str) : (ps.map f).find? (fun p => decide (p.name = n)) = (ps.find? fun p => decide (p.name = n)).map f := by
  induction ps with
  | nil => rfl
  | cons a ps ih =>
    rw [List.map_cons, List.find?_cons, List.find?_cons, hf a, ih]
    by_cases h : a.name = n
    · rw [decide_eq_true h]
      rfl
    · rw [decide_eq_false h]
theorem Uniq.map {ps : List Pr} {f : Pr → Pr} (hf : ∀ p, (f p).name = p.name) (h : Uniq ps) : Uniq (ps.map f) := by
  intro p hp q hq e
  obtain ⟨a, ha, rfl⟩ := List.mem_map.mp hp
  obtain ⟨b, hb, rfl⟩ := List.mem_map.mp hq
  rw [hf, hf] at e
  rw [h a ha b hb e]
theorem setB_name {n : Str} {locs : List Str} {b : Blk} (q : Pr) : (if q.name = n then { q with locs := locs, block := b } else q : Pr).name = q.name := by
  by_cases h : q.name = n
  · rw [if_pos h]
  · rw [if_neg h]
theorem setB_proc {G : Ga} {p : Pr} {locs : List Str} {b : Blk} (h : Uniq G.procs) (hp : p ∈ G.procs) : (G.setB p.name locs b).proc p.name = some { p with locs := locs, block := b } := by
  unfold Ga.setB Ga.proc
  dsimp only
  rw [find_map setB_name, show G.procs.find? (fun q => decide (q.name = p.name)) = some p from h.proc hp, Option.map_some, if_pos rfl]
theorem setB_uniq {G : Ga} {n : Str} {locs : List Str} {b : Blk} (h : Uniq G.procs) : Uniq (G.setB n locs b).procs := Uniq.map setB_name h
theorem setB_none {G : Ga} {n m : Str} {locs : List Str} {b : Blk} (h : G.proc m = none) : (G.setB n locs b).proc m = none := by
  unfold Ga.setB Ga.proc
  dsimp only
  rw [find_map setB_name, show G.procs.find? (fun q => decide (q.name = m)) = none from h]
  rfl
/-- a new block in a procedure: put and setB are one -/
theorem put_setB {G : Ga} {p : Pr} {b : Blk} (h : Uniq G.procs) (hp : p ∈ G.procs) : G.put { p with block := b } = G.setB p.name p.locs b := by
  refine Ga.ext rfl rfl rfl ?_
  show G.procs.map _ = G.procs.map _
  refine List.map_congr_left fun q hq => ?_
  by_cases e : q.name = p.name
  · rw [if_pos e, if_pos e, h q hq p hp e]
  · rw [if_neg e, if_neg e]
theorem setB_setB {G : Ga} {n : Str} {l1 l2 : List Str} {b1 b2 : Blk} : (G.setB n l1 b1).setB n l2 b2 = G.setB n l2 b2 := by
  refine Ga.ext rfl rfl rfl ?_
  show (G.procs.map _).map _ = G.procs.map _
  rw [List.map_map]
  refine List.map_congr_left fun q hq => ?_
  by_cases e : q.name = n <;> simp [e]
/-! ### sizes -/
structure GaSz (G : Ga) : Prop where
  n : G.procs.length ≤ 1000
  b : ∀ p ∈ G.procs, blF 12 12 p.block ∧ p.block.l.length ≤ 900
theorem PrF_.mono {k d j e : Nat} {p : Pr} (h : PrF_ k d p) (hk : k ≤ j) (hd : d ≤ e) : PrF_ j e p := ⟨h.name, h.locs, blF.mono hk h.block hd, h.res.mono hk⟩
theorem GaF.mono {k d j e : Nat} {G : Ga} (h : GaF k d G) (hk : k ≤ j) (hd : d ≤ e) : GaF j e G := ⟨h.vars, h.tabs, h.lots, fun p hp => (h.procs p hp).mono hk hd⟩
theorem GaF.setB {k d : Nat} {G : Ga} {n : Str} {locs : List Str} {b : Blk} (h : GaF k d G) (hl : ∀ x ∈ locs, nmB x = true) (hb : blF k d b) : GaF k d (G.setB n locs b) := by
  refine ⟨h.vars, h.tabs, h.lots, fun q hq => ?_⟩
  obtain ⟨p, hp, rfl⟩ := List.mem_map.mp hq
  have f := h.procs p hp
  by_cases e : p.name = n
  · rw [if_pos e]
    exact ⟨f.name, hl, hb, f.res⟩
  · rw [if_neg e]
    exact f
theorem ga_sizes {g : Ga} (h : GaOk g) : g.procs.length ≤ 2 ∧ 0 < g.procs.length := by
  have := congrArg List.length (show g.procs.map (·.name) = g.procs.map (·.name) from rfl)
  rcases h.procs with e | e
  · have := congrArg List.length e
    rw [List.length_map] at this
    rw [this]
    decide
  · have := congrArg List.length e
    rw [List.length_map] at this
    rw [this]
    decide
theorem GaSz.setB {G : Ga} {n : Str} {locs : List Str} {b : Blk} (h : GaSz G) (hb : blF 12 12 b) (hl : b.l.length ≤ 900) : GaSz (G.setB n locs b) := by
  refine ⟨by show (G.procs.map _).length ≤ 1000; rw [List.length_map]; exact h.n, fun q hq => ?_⟩
  obtain ⟨p, hp, rfl⟩ := List.mem_map.mp hq
  by_cases e : p.name = n
  · rw [if_pos e]
    exact ⟨hb, hl⟩
  · rw [if_neg e]
    exact h.b p hp
theorem GaSz.ofOk {g : Ga} (h : GaOk g) : GaSz g := by
  have s := ga_sizes h
  refine ⟨by omega, fun p hp => ?_⟩
  have f := (GaF.ofOk h).procs p hp
  have l := (h.proc p hp).len
  refine ⟨blF.mono (by decide) f.block (by decide), ?_⟩
  rw [Blk.len_l]
  omega
theorem proc_no {g : Ga} (h : GaOk g) {n : Str} (hn : n ≠ "p" ∧ n ≠ "r") : g.proc n = none := by
  refine find_no fun q hq => ?_
  have : q.name ∈ g.procs.map (·.name) := List.mem_map.mpr ⟨q, hq, rfl⟩
  intro e
  rw [e] at this
  rcases h.procs with z | z <;> rw [z] at this <;> simp [hn.1, hn.2] at this
/-! ### names of rows -/
theorem trip_at {K : PySem.W.Frag} {H : Hp} {ts : List (Str × Int × Int)} {xs : List V} (dd : DpAll K H xs (ts.map trip)) {i : Nat} {x : V} (hx : xs[i]? = some x) : ∃ (t : Str × Int × Int) (b : Addr), ts[i]? = some t ∧ x = .ref b ∧ SqT K H b [.str t.1, .int t.2.1, .int t.2.2] := by
  have hi := (List.getElem?_eq_some_iff.mp hx).1
  have lx : xs.length = ts.length := (DpAll.len dd).trans (List.length_map _)
  obtain ⟨t, et⟩ : ∃ t, ts[i]? = some t := ⟨ts[i]'(lx ▸ hi), List.getElem?_eq_getElem _⟩
  obtain ⟨v', ev, dt⟩ := DpAll.get dd (show (ts.map trip)[i]? = some (trip t) by rw [List.getElem?_map, et]; rfl)
  rw [hx] at ev
  cases ev
  obtain ⟨b, rfl, hb⟩ := trip_inv dt
  exact ⟨t, b, et, rfl, hb⟩
theorem names_next {ts : List (Str × Int × Int)} {i : Nat} {t : Str × Int × Int} (et : ts[i]? = some t) : ((ts.map (·.1)).take (i + 1)).map V.str = ((ts.map (·.1)).take i).map V.str ++ [V.str t.1] := by
  have e1 : (ts.map (·.1))[i]? = some t.1 := by rw [List.getElem?_map, et]; rfl
  rw [take_more e1, List.map_append]
  rfl
theorem names_all {K : PySem.W.Frag} {H : Hp} {ts : List (Str × Int × Int)} {xs : List V} (dd : DpAll K H xs (ts.map trip)) : (ts.map (·.1)).take xs.length = ts.map (·.1) := by
  have lx : xs.length = ts.length := (DpAll.len dd).trans (List.length_map _)
  rw [lx, ← List.length_map (f := (·.1)), List.take_length]
theorem names_len {ts : List (Str × Int × Int)} (h : ts.length ≤ 1000) (i : Nat) : (((ts.map (·.1)).take i).map V.str).length < sizeLine := by
  rw [List.length_map]
  exact Nat.lt_of_le_of_lt (Nat.le_trans (List.length_take_le' _ _) (by rw [List.length_map]; exact h)) (by decide)
theorem put_setL {G : Ga} {p : Pr} {b : Blk} {locs : List Str} (h : Uniq G.procs) (hp : p ∈ G.procs) : G.put { p with locs := locs, block := b } = G.setB p.name locs b := by
  refine Ga.ext rfl rfl rfl ?_
  show G.procs.map _ = G.procs.map _
  refine List.map_congr_left fun q hq => ?_
  by_cases e : q.name = p.name
  · rw [if_pos e, if_pos e, h q hq p hp e]
  · rw [if_neg e, if_neg e]
/-- the block that the law writes -/
def newB (b : Blk) (at_ : Nat) (s t : Stm) : Blk := Blk.of (b.l.take at_ ++ [s, t] ++ b.l.drop at_)
theorem newB_l (b : Blk) (at_ : Nat) (s t : Stm) : (newB b at_ s t).l = b.l.take at_ ++ [s, t] ++ b.l.drop at_ := Blk.l_of _
theorem newB_at {b : Blk} {at_ : Nat} {s t : Stm} (h : at_ ≤ b.l.length) : (newB b at_ s t).l[at_]? = some s ∧ (newB b at_ s t).l[at_ + 1]? = some t := by
  rw [newB_l]
  have hl : (b.l.take at_).length = at_ := by rw [List.length_take, Nat.min_eq_left h]
  constructor
  · rw [List.append_assoc, List.getElem?_append_right (by omega), hl, Nat.sub_self]
    rfl
  · rw [List.append_assoc, List.getElem?_append_right (by omega), hl, Nat.add_sub_cancel_left]
    rfl
theorem newB_len {b : Blk} {at_ : Nat} {s t : Stm} (h : at_ ≤ b.l.length) : (newB b at_ s t).l.length = b.l.length + 2 := by
  rw [newB_l]
  simp only [List.length_append, List.length_take, List.length_drop, List.length_cons, List.length_nil]
  omega
theorem newB_fit {b : Blk} {at_ : Nat} {s t : Stm} {k d : Nat} (hb : blF k d b) (hs : stF k d s) (ht : stF k d t) : blF k d (newB b at_ s t) := by
  refine blF.of fun x hx => ?_
  rcases List.mem_append.mp hx with hx | hx
  · rcases List.mem_append.mp hx with hx | hx
    · exact blF.l hb x (List.mem_of_mem_take hx)
    · simp only [List.mem_cons, List.not_mem_nil, or_false] at hx
      rcases hx with rfl | rfl
      · exact hs
      · exact ht
  · exact blF.l hb x (List.mem_of_mem_drop hx)
theorem cut_some (xs : List V) (j k : Nat) : cutV xs (some (j : Int)) (some (k : Int)) = (xs.take k).drop j := by
  unfold cutV
  have e1 : HT.sIx xs.length 0 (some (j : Int)) = min j xs.length := by
    have : ¬ ((j : Int) < 0) := by omega
    simp [HT.sIx, this]
    try omega
  have e2 : HT.sIx xs.length xs.length (some (k : Int)) = min k xs.length := by
    have : ¬ ((k : Int) < 0) := by omega
    simp [HT.sIx, this]
    try omega
  rw [e1, e2]
  apply List.ext_getElem?
  intro n
  simp only [List.getElem?_take, List.getElem?_drop]
  by_cases h : j ≤ xs.length
  · rw [Nat.min_eq_left h]
    by_cases h2 : j + n < k
    · rw [if_pos h2]
      by_cases h3 : n < min k xs.length - j
      · rw [if_pos h3]
      · rw [if_neg h3, List.getElem?_eq_none (by omega)]
    · rw [if_neg h2, if_neg (by omega)]
  · rw [if_neg (by omega)]
    split
    · rw [List.getElem?_eq_none (by omega)]
    · rfl
/-- a game of the laws, whose procedures may have been changed -/
structure GI (G : Ga) : Prop where
  s : GaSz G
  f : GaF 11 11 G
  u : Uniq G.procs
  g : ∀ p ∈ G.procs, ("g" : Str) ∈ p.locs
  v : G.vars.length ≤ 10
theorem GI.ofOk {G : Ga} (h : GaOk G) : GI G := by
  refine ⟨.ofOk h, (GaF.ofOk h).mono (by decide) (by decide), .ofOk h, fun p hp => ?_, ?_⟩
  · rcases (h.proc p hp).locs with e | e <;> rw [e] <;> exact List.mem_cons_self ..
  · have : (G.vars.map (·.1)).length ≤ 2 := by rcases h.vars with e | e | e <;> rw [e] <;> decide
    rw [List.length_map] at this
    omega
end Gm
set_option Elab.async false
set_option linter.all false
set_option maxRecDepth 100000
set_option maxHeartbeats 4000000
/-! Games that are folded. -/
namespace Gm
open PySem L2
open PyData (strOk)
/-- the value of an operator -/
def opV (o : Str) (a b : Int) : Int :=
  if o = "+" then (a + b) % 65536 else if o = "-" then (if a - b < 0 then 0 else a - b) else if o = "*" then a * b % 65536 else if o = "/" then (if b = 0 then 0 else a / b) else
  if o = "mod" then (if b = 0 then 0 else a % b) else if o = "<" then (if a < b then 1 else 0) else (if a = b then 1 else 0)
theorem opV_ok {o : Str} {a b : Int} (ha : 0 ≤ a ∧ a ≤ 65535) (hb : 0 ≤ b ∧ b ≤ 65535) : 0 ≤ opV o a b ∧ opV o a b ≤ 65535 := by
  unfold opV
  have h1 : b ≠ 0 → 0 ≤ a / b ∧ a / b ≤ a := fun h => ⟨Int.ediv_nonneg ha.1 hb.1, Int.ediv_le_self _ ha.1⟩
  have h2 : b ≠ 0 → 0 ≤ a % b ∧ a % b < b := fun h => ⟨Int.emod_nonneg _ h, Int.emod_lt_of_pos _ (by omega)⟩
  have h3 := Int.emod_nonneg (a * b) (by decide : (65536 : Int) ≠ 0)
  have h4 := Int.emod_lt_of_pos (a * b) (by decide : (0 : Int) < 65536)
  split
  · omega
  split
  · split <;> omega
  split
  · omega
  split
  · split
    · omega
    · have := h1 ‹_›; omega
  split
  · split
    · omega
    · have := h2 ‹_›; omega
  split
  · split <;> omega
  · split <;> omega
/-- worked out, if it is an operator on two numbers -/
def Ex.wo : Ex → Ex
  | .op o (.num a) (.num b) => .num (opV o a b)
  | e => e
def Ex.fo : Ex → Ex
  | .num n => .num n
  | .loc x => .loc x
  | .var x => .var x
  | .has t e => .has t e.fo
  | .cell t e => .cell t e.fo
  | .op o a b => (Ex.op o a.fo b.fo).wo
theorem Ex.wo_fit {k : Nat} {e : Ex} (h : exF k e) : exF k e.wo := by
  unfold Ex.wo
  split
  · rename_i o a b
    match k, h with
    | k + 1, h =>
      match k, h with
      | 0, h => exact h.2.1.elim
      | k + 1, h => exact opV_ok h.2.1 h.2.2
  · exact h
theorem Ex.fo_fit : ∀ {k : Nat} {e : Ex}, exF k e → exF k e.fo
  | 0, _, h => h.elim
  | k + 1, .num n, h => h
  | k + 1, .loc n, h => h
  | k + 1, .var n, h => h
  | k + 1, .has t e, h => ⟨h.1, Ex.fo_fit h.2⟩
  | k + 1, .cell t e, h => ⟨h.1, Ex.fo_fit h.2⟩
  | k + 1, .op o a b, h => Ex.wo_fit (k := k + 1) (e := .op o a.fo b.fo) ⟨h.1, Ex.fo_fit h.2.1, Ex.fo_fit h.2.2⟩
/-- a statement with its own expressions folded -/
def Stm.wx : Stm → Stm
  | .set x e => .set x e.fo
  | .lt l e => .lt l e.fo
  | .draw l n => .draw l n
  | .put t e f => .put t e.fo f.fo
  | .lot l o e => .lot l o e.fo
  | .ask l p e => .ask l p e.fo
  | .ite e a b => .ite e.fo a b
  | .bad => .bad
  | .after a => .after a
open Classical in
/-- what an if becomes -/
noncomputable def iteL (t : Ex) (a b : Blk) : List Stm := if a = b then a.l else match t with
  | .num n => if n = 0 then b.l else a.l
  | _ => [.ite t a b]
/-- the statements that a statement becomes -/
noncomputable def Stm.fst (s : Stm) : List Stm := match s.wx with
  | .ite t a b => iteL t a b
  | x => [x]
mutual
noncomputable def Stm.wcb : Stm → Stm
  | .ite e a b => .ite e a.fo b.fo
  | .after a => .after a.fo
  | .set x e => .set x e
  | .lt x e => .lt x e
  | .draw l n => .draw l n
  | .put t e f => .put t e f
  | .lot l o e => .lot l o e
  | .ask l o e => .ask l o e
  | .bad => .bad
noncomputable def Blk.fo : Blk → Blk
  | .nil => .nil
  | .cons s r => Blk.of (s.wcb.fst ++ r.fo.l)
end
noncomputable def Pr.fo (p : Pr) : Pr := { p with block := p.block.fo, res := p.res.fo }
noncomputable def Ga.fo (G : Ga) : Ga := { G with procs := G.procs.map Pr.fo }
theorem Blk.fo_l : ∀ b : Blk, b.fo.l = b.l.flatMap fun s => s.wcb.fst
  | .nil => by unfold Blk.fo Blk.l; rfl
  | .cons s r => by
    unfold Blk.fo
    rw [Blk.l_of, Blk.fo_l r]
    show _ = (s :: r.l).flatMap _
    rw [List.flatMap_cons]
/-! ### how many statements there are in all -/
mutual
def Stm.tot : Stm → Nat
  | .ite _ a b => 1 + a.tot + b.tot
  | .after a => 1 + a.tot
  | _ => 1
def Blk.tot : Blk → Nat
  | .nil => 0
  | .cons s r => s.tot + r.tot
end
theorem Stm.tot_pos (s : Stm) : 1 ≤ s.tot := by cases s <;> (unfold Stm.tot; omega)
theorem iteL_len (t : Ex) (a b : Blk) : (iteL t a b).length ≤ 1 + a.l.length + b.l.length := by
  unfold iteL
  split
  · omega
  · split
    · split <;> omega
    · show 1 ≤ _; omega
theorem fst_len {s : Stm} (h : ∀ e a b, s ≠ .ite e a b) : s.fst = [s.wx] := by
  cases s <;> first | rfl | exact absurd rfl (h _ _ _)
mutual
theorem Stm.fst_tot : ∀ s : Stm, s.wcb.fst.length ≤ s.tot
  | .ite e a b => by
    have h1 := Blk.fo_tot a
    have h2 := Blk.fo_tot b
    unfold Stm.wcb Stm.tot
    show (iteL e.fo a.fo b.fo).length ≤ _
    have := iteL_len e.fo a.fo b.fo
    omega
  | .after a => by unfold Stm.wcb Stm.tot; show 1 ≤ _; omega
  | .set _ _ => by unfold Stm.wcb Stm.tot; exact Nat.le_refl _
  | .lt _ _ => by unfold Stm.wcb Stm.tot; exact Nat.le_refl _
  | .draw _ _ => by unfold Stm.wcb Stm.tot; exact Nat.le_refl _
  | .put _ _ _ => by unfold Stm.wcb Stm.tot; exact Nat.le_refl _
  | .lot _ _ _ => by unfold Stm.wcb Stm.tot; exact Nat.le_refl _
  | .ask _ _ _ => by unfold Stm.wcb Stm.tot; exact Nat.le_refl _
  | .bad => by unfold Stm.wcb Stm.tot; exact Nat.le_refl _
theorem Blk.fo_tot : ∀ b : Blk, b.fo.l.length ≤ b.tot
  | .nil => by unfold Blk.fo Blk.l; exact Nat.zero_le _
  | .cons s r => by
    have h1 := Stm.fst_tot s
    have h2 := Blk.fo_tot r
    unfold Blk.fo Blk.tot
    rw [Blk.l_of, List.length_append]
    omega
end
theorem iteL_fit {k d : Nat} {t : Ex} {a b : Blk} (ht : exF k t) (ha : blF k d a) (hb : blF k d b) (la : a.len ≤ 50 * k + 50) (lb : b.len ≤ 50 * k + 50) : ∀ x ∈ iteL t a b, stF k (d + 1) x := by
  intro x hx
  unfold iteL at hx
  have la' : ∀ x ∈ a.l, stF k (d + 1) x := fun x h => stF.mono (Nat.le_refl _) (blF.l ha x h) (by omega)
  have lb' : ∀ x ∈ b.l, stF k (d + 1) x := fun x h => stF.mono (Nat.le_refl _) (blF.l hb x h) (by omega)
  split at hx
  · exact la' x hx
  · split at hx
    · split at hx
      · exact lb' x hx
      · exact la' x hx
    · rw [List.mem_singleton.mp hx]
      unfold stF
      exact ⟨ht, ha, hb, la, lb⟩
mutual
theorem Stm.fst_fit {k : Nat} : ∀ {d : Nat} {s : Stm}, stF k d s → s.tot ≤ 50 * k + 50 → ∀ x ∈ s.wcb.fst, stF k d x
  | 0, .ite _ _ _, h, _, _, _ => by unfold stF at h; exact h.elim
  | d + 1, .ite e a b, h, ht, x, hx => by
    unfold Stm.tot at ht
    unfold stF at h
    unfold Stm.wcb at hx
    have l1 := Blk.fo_tot a
    have l2 := Blk.fo_tot b
    rw [Blk.len_l] at l1 l2
    exact iteL_fit (Ex.fo_fit h.1) (Blk.fo_fit h.2.1 (by omega)) (Blk.fo_fit h.2.2.1 (by omega)) (by omega) (by omega) x hx
  | 0, .after _, h, _, _, _ => by unfold stF at h; exact h.elim
  | d + 1, .after a, h, ht, x, hx => by
    unfold Stm.tot at ht
    unfold stF at h
    unfold Stm.wcb at hx
    have l1 := Blk.fo_tot a
    rw [Blk.len_l] at l1
    rw [List.mem_singleton.mp hx]
    show stF k (d + 1) (.after a.fo)
    unfold stF
    exact ⟨Blk.fo_fit h.1 (by omega), by omega⟩
  | d, .set y e, h, _, x, hx => by
    unfold Stm.wcb at hx
    rw [List.mem_singleton.mp hx]
    show stF k d (.set y e.fo)
    unfold stF at h ⊢
    exact ⟨h.1, Ex.fo_fit h.2⟩
  | d, .lt y e, h, _, x, hx => by
    unfold Stm.wcb at hx
    rw [List.mem_singleton.mp hx]
    show stF k d (.lt y e.fo)
    unfold stF at h ⊢
    exact ⟨h.1, Ex.fo_fit h.2⟩
  | d, .draw y e, h, _, x, hx => by
    unfold Stm.wcb at hx
    rw [List.mem_singleton.mp hx]
    exact h
  | d, .put y e f, h, _, x, hx => by
    unfold Stm.wcb at hx
    rw [List.mem_singleton.mp hx]
    show stF k d (.put y e.fo f.fo)
    unfold stF at h ⊢
    exact ⟨h.1, Ex.fo_fit h.2.1, Ex.fo_fit h.2.2⟩
  | d, .lot y o e, h, _, x, hx => by
    unfold Stm.wcb at hx
    rw [List.mem_singleton.mp hx]
    show stF k d (.lot y o e.fo)
    unfold stF at h ⊢
    exact ⟨h.1, h.2.1, Ex.fo_fit h.2.2⟩
  | d, .ask y o e, h, _, x, hx => by
    unfold Stm.wcb at hx
    rw [List.mem_singleton.mp hx]
    show stF k d (.ask y o e.fo)
    unfold stF at h ⊢
    exact ⟨h.1, h.2.1, Ex.fo_fit h.2.2⟩
  | d, .bad, h, _, x, hx => by
    unfold Stm.wcb at hx
    rw [List.mem_singleton.mp hx]
    exact h
theorem Blk.fo_fit {k : Nat} : ∀ {d : Nat} {b : Blk}, blF k d b → b.tot ≤ 50 * k + 50 → blF k d b.fo
  | d, .nil, _, _ => by unfold Blk.fo blF; trivial
  | d, .cons s r, h, ht => by
    unfold Blk.tot at ht
    unfold blF at h
    unfold Blk.fo
    refine blF.of fun x hx => ?_
    rcases List.mem_append.mp hx with hx | hx
    · exact Stm.fst_fit h.1 (by omega) x hx
    · exact blF.l (Blk.fo_fit h.2 (by omega)) x hx
end
end Gm
set_option Elab.async false
set_option linter.all false
set_option maxRecDepth 100000
set_option maxHeartbeats 2000000
/-! Statements and games: what is read. -/
namespace Pz
open PySem L2 Gm
/-- a part of a statement -/
inductive Pt where
  | s (x : Str) | n (v : Int) | e (x : Ex)
def Pt.d : Pt → PyData
  | .s x => .str x
  | .n v => .int v
  | .e x => x.d
theorem Pt.nol : ∀ x : Pt, nol x.d = true
  | .s _ => rfl
  | .n _ => rfl
  | .e x => Ex.nol x
def kindNames (s : Sc) (k : Str) : Option (List Str) := if k = "variable" then some s.vars else if k = "local" then some s.locs else if k = "table" then some s.tabs else if k = "lots" then some s.lots else if k = "asked" then some s.asks else none
def forms : List (Str × List Str) := [("set", ["variable", "expression"]), ("let", ["local", "expression"]), ("draw", ["local", "number"]), ("put", ["table", "expression", "expression"]), ("lot", ["local", "lots", "expression"]), ("ask", ["local", "asked", "expression"]), ("bad", [])]
def words : List Str := ["set", "let", "draw", "put", "lot", "ask", "bad"]
def formOf (w : Str) : List Str := (forms.lookup w).getD []
def canFollow (s : Sc) (k : Str) : Bool := match kindNames s k with
  | none => true
  | some xs => decide (0 < xs.length)
def startsOf (s : Sc) : List Str := words.filter fun w => (formOf w).all (canFollow s)
/-- whether a statement with this first word may stand where k more levels are left -/
def can (s : Sc) (k : Nat) (w : Str) : Bool := if w = "if" ∨ w = "after" then decide (0 < k) else decide (w ∈ startsOf s)
section
variable (ws : List Str) (s : Sc)
def pPart (k : Str) (i : Nat) : Except Nat (Pt × Nat) :=
  if k = "expression" then (match pExpr ws s 7 i with
    | .error j => .error j
    | .ok (e, j) => .ok (.e e, j))
  else if k = "number" then (if (isNum (wd ws i) && decide ((1 : Int) ≤ (numW (wd ws i) : Nat) ∧ ((numW (wd ws i) : Nat) : Int) ≤ 64)) = true then .ok (.n (numW (wd ws i) : Nat), i + 1) else .error i)
  else match kindNames s k with
    | some xs => if decide (wd ws i ∈ xs) = true then .ok (.s (wd ws i), i + 1) else .error i
    | none => .error i
def pParts : List Str → Nat → Except Nat (List Pt × Nat)
  | [], i => .ok ([], i)
  | k :: ks, i => match pPart ws s k i with
    | .error j => .error j
    | .ok (x, j) => match pParts ks j with
      | .error m => .error m
      | .ok (xs, m) => .ok (x :: xs, m)
def mkStm (w : Str) (xs : List Pt) : Stm :=
  if w = "set" then (match xs with | [.s x, .e v] => .set x v | _ => .bad)
  else if w = "let" then (match xs with | [.s x, .e v] => .lt x v | _ => .bad)
  else if w = "draw" then (match xs with | [.s x, .n v] => .draw x v | _ => .bad)
  else if w = "put" then (match xs with | [.s x, .e v, .e u] => .put x v u | _ => .bad)
  else if w = "lot" then (match xs with | [.s x, .s y, .e u] => .lot x y u | _ => .bad)
  else if w = "ask" then (match xs with | [.s x, .s y, .e u] => .ask x y u | _ => .bad)
  else .bad
def pSimple (i : Nat) : Except Nat (Stm × Nat) := match pParts ws s (formOf (wd ws i)) (i + 1) with
  | .error j => .error j
  | .ok (xs, j) => .ok (mkStm (wd ws i) xs, j)
/-- statements as long as one can begin, at most f of them -/
def pLoop (st : Nat → Except Nat (Stm × Nat)) (k : Nat) : Nat → Nat → Except Nat (Blk × Nat)
  | 0, i => .ok (.nil, i)
  | f + 1, i => if can s k (wd ws i) = true then (match st i with
      | .error j => .error j
      | .ok (x, j) => match pLoop st k f j with
        | .error m => .error m
        | .ok (b, m) => .ok (.cons x b, m))
    else .ok (.nil, i)
def pChoice (blk : Nat → Except Nat (Blk × Nat)) (i : Nat) : Except Nat (Stm × Nat) :=
  match pExpr ws s 7 i with
  | .error j => .error j
  | .ok (t, j) => match blk j with
    | .error m => .error m
    | .ok (a, m) => if wd ws m = "end" then .ok (.ite t a .nil, m + 1)
      else if wd ws m = "else" then (match blk (m + 1) with
        | .error q => .error q
        | .ok (b, q) => if b.len = 0 then .error q else if wd ws q = "end" then .ok (.ite t a b, q + 1) else .error q)
      else .error m
def pAfter (blk : Nat → Except Nat (Blk × Nat)) (i : Nat) : Except Nat (Stm × Nat) :=
  match blk i with
  | .error m => .error m
  | .ok (a, m) => if wd ws m = "end" then .ok (.after a, m + 1) else .error m
def pStm : Nat → Nat → Except Nat (Stm × Nat)
  | 0, i => pSimple ws s i
  | k + 1, i => if wd ws i = "if" then pChoice ws s (pLoop ws s (pStm k) k ws.length) (i + 1)
    else if wd ws i = "after" then pAfter ws (pLoop ws s (pStm k) k ws.length) (i + 1)
    else pSimple ws s i
def pBlk (k : Nat) : Nat → Except Nat (Blk × Nat) := pLoop ws s (pStm ws s k) k ws.length
end
/-! ### they go on -/
section
variable {ws : List Str} {s : Sc}
theorem pAtom_lt {i j : Nat} {e : Ex} (h : pAtom ws s i = .ok (e, j)) : i < j := by
  unfold pAtom at h
  split at h
  · cases h; omega
  · split at h
    · cases h; omega
    · split at h
      · cases h; omega
      · cases h
theorem pExpr_lt : ∀ {k i j : Nat} {e : Ex}, pExpr ws s k i = .ok (e, j) → i < j
  | 0, i, j, e, h => pAtom_lt h
  | k + 1, i, j, e, h => by
    unfold pExpr at h
    split at h
    · split at h
      · cases h
      · rename_i h1
        have l1 := pExpr_lt h1
        split at h
        · cases h
        · rename_i h2
          have l2 := pExpr_lt h2
          cases h
          omega
    · split at h
      · split at h
        · split at h
          · cases h
          · rename_i h1
            have l1 := pExpr_lt h1
            cases h
            omega
        · cases h
      · exact pAtom_lt h
theorem pPart_lt {k : Str} {i j : Nat} {x : Pt} (h : pPart ws s k i = .ok (x, j)) : i < j := by
  unfold pPart at h
  split at h
  · split at h
    · cases h
    · rename_i h1
      have := pExpr_lt h1
      cases h
      omega
  · split at h
    · split at h
      · cases h; omega
      · cases h
    · split at h
      · split at h
        · cases h; omega
        · cases h
      · cases h
theorem pParts_le : ∀ {ks : List Str} {i j : Nat} {xs : List Pt}, pParts ws s ks i = .ok (xs, j) → i ≤ j
  | [], i, j, xs, h => by unfold pParts at h; cases h; exact Nat.le_refl _
  | k :: ks, i, j, xs, h => by
    unfold pParts at h
    split at h
    · cases h
    · rename_i h1
      have l1 := pPart_lt h1
      split at h
      · cases h
      · rename_i h2
        have l2 := pParts_le h2
        cases h
        omega
theorem pSimple_lt {i j : Nat} {x : Stm} (h : pSimple ws s i = .ok (x, j)) : i < j := by
  unfold pSimple at h
  split at h
  · cases h
  · rename_i h1
    have := pParts_le h1
    cases h
    omega
theorem pLoop_le {st : Nat → Except Nat (Stm × Nat)} {k : Nat} (hst : ∀ i j x, st i = .ok (x, j) → i ≤ j) : ∀ {f i j : Nat} {b : Blk}, pLoop ws s st k f i = .ok (b, j) → i ≤ j
  | 0, i, j, b, h => by unfold pLoop at h; cases h; exact Nat.le_refl _
  | f + 1, i, j, b, h => by
    unfold pLoop at h
    split at h
    · split at h
      · cases h
      · rename_i h1
        have l1 := hst _ _ _ h1
        split at h
        · cases h
        · rename_i h2
          have l2 := pLoop_le hst h2
          cases h
          omega
    · cases h; exact Nat.le_refl _
theorem pStm_lt : ∀ {k i j : Nat} {x : Stm}, pStm ws s k i = .ok (x, j) → i < j
  | 0, i, j, x, h => pSimple_lt h
  | k + 1, i, j, x, h => by
    have lb : ∀ {i j : Nat} {b : Blk}, pLoop ws s (pStm ws s k) k ws.length i = .ok (b, j) → i ≤ j := fun h => pLoop_le (fun i j x e => Nat.le_of_lt (pStm_lt e)) h
    unfold pStm at h
    split at h
    · unfold pChoice at h
      split at h
      · cases h
      · rename_i h1
        have l1 := pExpr_lt h1
        split at h
        · cases h
        · rename_i h2
          have l2 := lb h2
          split at h
          · cases h; omega
          · split at h
            · split at h
              · cases h
              · rename_i h3
                have l3 := lb h3
                split at h
                · cases h
                · split at h
                  · cases h; omega
                  · cases h
            · cases h
    · split at h
      · unfold pAfter at h
        split at h
        · cases h
        · rename_i h1
          have l1 := lb h1
          split at h
          · cases h; omega
          · cases h
      · exact pSimple_lt h
theorem can_ne {k i : Nat} (h : can s k (wd ws i) = true) (e1 : Str.empty ∉ startsOf s) : wd ws i ≠ Str.empty := fun z => by
  rw [z] at h
  unfold can at h
  rw [if_neg (by decide +kernel)] at h
  exact e1 (of_decide_eq_true h)
theorem empty_starts : Str.empty ∉ startsOf s := fun h => by
  have := (List.mem_filter.mp h).1
  exact absurd this (by decide +kernel)
end
/-! ### how a reading ends -/
def GEnd {α : Type} (d : α → PyData) (C B : Addr) (K : PySem.W.Frag) (p l : Addr) (ws : List Str) (H : Hp) (Q : VK) (E : XK) : Except Nat (α × Nat) → Prop
  | .ok (x, j) => ∀ v H', But p H H' → WAt C H' p l ws j → Dp K H' v (d x) → Q v H'
  | .error j => Ref p B H j E
end Pz
set_option Elab.async false
set_option linter.all false
set_option maxRecDepth 100000
set_option maxHeartbeats 4000000
/-! Statements by their parts; two tuples walked side by side. -/
namespace Gm
open PySem L2
open PyData (strOk)
theorem zipT {K : PySem.W.Frag} {a b : Addr} {xs ys : List V} {n : Nat} (hn : n = min xs.length ys.length) : Walk (RZ.ItzT K a b) n (fun H => SqT K H a xs ∧ SqT K H b ys) (YPair (fun i => xs[i]?) (fun i => ys[i]?)) := by
  subst hn
  refine ⟨fun i _ hi q => ?_, fun _ q => ⟨xs, ys, q.1, q.2, by omega⟩, fun i H v H' _ q y => ?_⟩
  · exact ⟨xs, ys, xs[i]'(by omega), ys[i]'(by omega), q.1, q.2, List.getElem?_eq_getElem _, List.getElem?_eq_getElem _⟩
  · obtain ⟨T, x, z, h1, h2, h3, h4, h5⟩ := y
    exact ⟨T, x, z, h1, h2, h3, h4 xs q.1, h5 ys q.2⟩
theorem cut_tl (x : V) (xs : List V) : cutV (x :: xs) (some 1) none = xs := by
  have := cut_drop (x :: xs) 1
  exact this
inductive Pa where
  | e (x : Ex) | o (d : PyData)
def Pa.d : Pa → PyData
  | .e x => x.d
  | .o d => d
def Pa.fo : Pa → Pa
  | .e x => .e x.fo
  | .o d => .o d
def Stm.pas : Stm → List Pa
  | .set x e => [.o (.str x), .e e]
  | .lt l e => [.o (.str l), .e e]
  | .draw l n => [.o (.str l), .o (.int n)]
  | .put t e f => [.o (.str t), .e e, .e f]
  | .lot l o e => [.o (.str l), .o (.str o), .e e]
  | .ask l p e => [.o (.str l), .o (.str p), .e e]
  | _ => []
def Stm.sim : Stm → Bool
  | .ite _ _ _ => false
  | .after _ => false
  | _ => true
theorem pas_args {s : Stm} (h : s.sim = true) : s.args = s.pas.map Pa.d := by
  cases s <;> first | rfl | cases h
theorem wx_args {s : Stm} (h : s.sim = true) : s.wx.kind = s.kind ∧ s.wx.args = s.pas.map fun p => p.fo.d := by
  cases s <;> first | exact ⟨rfl, rfl⟩ | cases h
theorem sim_kind {s : Stm} (h : s.sim = true) : s.kind ∈ Pz.words ∧ s.kind ≠ "if" ∧ s.kind ≠ "after" := by
  cases s <;> first | (dsimp only [Stm.kind]; decide +kernel) | cases h
theorem fitL {α β : Type} {R : α → β → Prop} : ∀ {as : List α} {bs : List β}, as.length = bs.length → (∀ p ∈ as.zip bs, R p.1 p.2) → ∀ (i : Nat) x y, as[i]? = some x → bs[i]? = some y → R x y
  | [], _, _, _, i, x, y, e, _ => by simp at e
  | _ :: _, [], h, _, _, _, _, _, _ => by simp at h
  | a :: as, b :: bs, h, q, 0, x, y, e1, e2 => by
    obtain rfl : a = x := Option.some.inj e1
    obtain rfl : b = y := Option.some.inj e2
    exact q (a, b) (by simp)
  | a :: as, b :: bs, h, q, i + 1, x, y, e1, e2 => fitL (as := as) (bs := bs) (by simpa using h) (fun p hp => q p (by simp [hp])) i x y e1 e2
def isE : Str → Pa → Prop := fun k p => (k = "expression" ∧ ∃ x, p = .e x) ∨ (k ≠ "expression" ∧ ∃ d, p = .o d)
theorem pas_form {s : Stm} (h : s.sim = true) : (Pz.formOf s.kind).length = s.pas.length ∧ ∀ (i : Nat) k p, (Pz.formOf s.kind)[i]? = some k → s.pas[i]? = some p → isE k p := by
  have f1 : Pz.formOf "set" = (["variable", "expression"] : List Str) := by decide +kernel
  have f2 : Pz.formOf "let" = (["local", "expression"] : List Str) := by decide +kernel
  have f3 : Pz.formOf "draw" = (["local", "number"] : List Str) := by decide +kernel
  have f4 : Pz.formOf "put" = (["table", "expression", "expression"] : List Str) := by decide +kernel
  have f5 : Pz.formOf "lot" = (["local", "lots", "expression"] : List Str) := by decide +kernel
  have f6 : Pz.formOf "ask" = (["local", "asked", "expression"] : List Str) := by decide +kernel
  have f7 : Pz.formOf "bad" = ([] : List Str) := by decide +kernel
  have nv : ("variable" : Str) ≠ "expression" := by decide +kernel
  have nl : ("local" : Str) ≠ "expression" := by decide +kernel
  have nn : ("number" : Str) ≠ "expression" := by decide +kernel
  have nt : ("table" : Str) ≠ "expression" := by decide +kernel
  have no : ("lots" : Str) ≠ "expression" := by decide +kernel
  have na : ("asked" : Str) ≠ "expression" := by decide +kernel
  have E : ∀ x, isE "expression" (.e x) := fun x => .inl ⟨rfl, x, rfl⟩
  have O : ∀ (k : Str) (d : PyData), k ≠ "expression" → isE k (.o d) := fun k d hk => .inr ⟨hk, d, rfl⟩
  cases s with
  | set x e =>
    refine ⟨by show (Pz.formOf "set").length = _; rw [f1]; rfl, ?_⟩
    show ∀ (i : Nat) k p, (Pz.formOf "set")[i]? = some k → _ → _
    rw [f1]
    refine fitL rfl fun p hp => ?_
    simp only [List.zip_cons_cons, List.zip_nil_right, List.mem_cons, List.not_mem_nil, or_false, Stm.pas] at hp
    rcases hp with rfl | rfl
    · exact O _ _ nv
    · exact E _
  | lt x e =>
    refine ⟨by show (Pz.formOf "let").length = _; rw [f2]; rfl, ?_⟩
    show ∀ (i : Nat) k p, (Pz.formOf "let")[i]? = some k → _ → _
    rw [f2]
    refine fitL rfl fun p hp => ?_
    simp only [List.zip_cons_cons, List.zip_nil_right, List.mem_cons, List.not_mem_nil, or_false, Stm.pas] at hp
    rcases hp with rfl | rfl
    · exact O _ _ nl
    · exact E _
  | draw x e =>
    refine ⟨by show (Pz.formOf "draw").length = _; rw [f3]; rfl, ?_⟩
    show ∀ (i : Nat) k p, (Pz.formOf "draw")[i]? = some k → _ → _
    rw [f3]
    refine fitL rfl fun p hp => ?_
    simp only [List.zip_cons_cons, List.zip_nil_right, List.mem_cons, List.not_mem_nil, or_false, Stm.pas] at hp
    rcases hp with rfl | rfl
    · exact O _ _ nl
    · exact O _ _ nn
  | put x e f =>
    refine ⟨by show (Pz.formOf "put").length = _; rw [f4]; rfl, ?_⟩
    show ∀ (i : Nat) k p, (Pz.formOf "put")[i]? = some k → _ → _
    rw [f4]
    refine fitL rfl fun p hp => ?_
    simp only [List.zip_cons_cons, List.zip_nil_right, List.mem_cons, List.not_mem_nil, or_false, Stm.pas] at hp
    rcases hp with rfl | rfl | rfl
    · exact O _ _ nt
    · exact E _
    · exact E _
  | lot x o e =>
    refine ⟨by show (Pz.formOf "lot").length = _; rw [f5]; rfl, ?_⟩
    show ∀ (i : Nat) k p, (Pz.formOf "lot")[i]? = some k → _ → _
    rw [f5]
    refine fitL rfl fun p hp => ?_
    simp only [List.zip_cons_cons, List.zip_nil_right, List.mem_cons, List.not_mem_nil, or_false, Stm.pas] at hp
    rcases hp with rfl | rfl | rfl
    · exact O _ _ nl
    · exact O _ _ no
    · exact E _
  | ask x o e =>
    refine ⟨by show (Pz.formOf "ask").length = _; rw [f6]; rfl, ?_⟩
    show ∀ (i : Nat) k p, (Pz.formOf "ask")[i]? = some k → _ → _
    rw [f6]
    refine fitL rfl fun p hp => ?_
    simp only [List.zip_cons_cons, List.zip_nil_right, List.mem_cons, List.not_mem_nil, or_false, Stm.pas] at hp
    rcases hp with rfl | rfl | rfl
    · exact O _ _ nl
    · exact O _ _ na
    · exact E _
  | bad =>
    refine ⟨by show (Pz.formOf "bad").length = _; rw [f7]; rfl, ?_⟩
    show ∀ (i : Nat) k p, (Pz.formOf "bad")[i]? = some k → _ → _
    rw [f7]
    intro i k p h
    simp at h
  | ite e a b => cases h
  | after a => cases h
theorem pas_fit {k d : Nat} {s : Stm} (h : stF k d s) : ∀ (i : Nat) e, s.pas[i]? = some (.e e) → exF k e := by
  intro i e hi
  have hm := List.mem_of_getElem? hi
  cases s <;> unfold stF at h <;> simp [Stm.pas] at hm <;> first | (subst hm; exact h.2) | (rcases hm with rfl | rfl <;> first | exact h.2.1 | exact h.2.2) | (subst hm; exact h.2.2)
theorem pas_nol {s : Stm} : ∀ p ∈ s.pas, nol p.fo.d = true := by
  intro p hp
  cases s <;> simp [Stm.pas] at hp <;> rcases hp with rfl | rfl | rfl <;> first | rfl | exact Ex.nol _
theorem nolAll_stms : ∀ ss : List Stm, nolAll (ss.map Stm.d) = true
  | [] => rfl
  | s :: ss => by show (nol s.d && nolAll (ss.map Stm.d)) = true; rw [nolAll_stms ss, Stm.nol]; rfl
theorem wcb_fit {k d : Nat} {s : Stm} (h : stF k d s) (ht : s.tot ≤ 50 * k + 50) : stF k d s.wcb := by
  cases s with
  | ite e a b =>
    cases d with
    | zero => unfold stF at h; exact h.elim
    | succ d =>
      unfold Stm.tot at ht
      unfold stF at h
      unfold Stm.wcb stF
      have l1 := Blk.fo_tot a
      have l2 := Blk.fo_tot b
      rw [Blk.len_l] at l1 l2
      exact ⟨h.1, Blk.fo_fit h.2.1 (by omega), Blk.fo_fit h.2.2.1 (by omega), by omega, by omega⟩
  | after a =>
    cases d with
    | zero => unfold stF at h; exact h.elim
    | succ d =>
      unfold Stm.tot at ht
      unfold stF at h
      unfold Stm.wcb stF
      have l1 := Blk.fo_tot a
      rw [Blk.len_l] at l1
      exact ⟨Blk.fo_fit h.1 (by omega), by omega⟩
  | _ => unfold Stm.wcb; exact h
theorem wo_ne {o : Str} {x y : Ex} (h : ¬ ∃ a b, x = .num a ∧ y = .num b) : (Ex.op o x y).wo = .op o x y := by
  unfold Ex.wo
  split
  · rename_i e
    injection e with _ e1 e2
    exact absurd ⟨_, _, e1, e2⟩ h
  · rfl
theorem wo_other {e : Ex} (h : ∀ o x y, e ≠ .op o x y) : e.wo = e := by
  unfold Ex.wo
  split
  · exact absurd rfl (h _ _ _)
  · rfl
theorem num_is {k : Nat} {e : Ex} (hf : exF k e) (h : e.kind = "number") : ∃ n, e = .num n := by
  match k, e, hf with
  | 0, _, hf => exact hf.elim
  | k + 1, .num n, _ => exact ⟨n, rfl⟩
  | k + 1, .op o a b, hf => exact absurd (show ("number" : Str) ∈ ops from by rw [← (show o = "number" from h)]; exact hf.1) (by decide +kernel)
  | k + 1, .loc _, _ => exact absurd (show ("local" : Str) = "number" from h) (by decide +kernel)
  | k + 1, .var _, _ => exact absurd (show ("variable" : Str) = "number" from h) (by decide +kernel)
  | k + 1, .has _ _, _ => exact absurd (show ("has" : Str) = "number" from h) (by decide +kernel)
  | k + 1, .cell _ _, _ => exact absurd (show ("cell" : Str) = "number" from h) (by decide +kernel)
theorem blk_tot_at : ∀ {b : Blk} {s : Stm}, s ∈ b.l → s.tot ≤ b.tot
  | .nil, s, h => by unfold Blk.l at h; cases h
  | .cons x r, s, h => by
    unfold Blk.l at h
    unfold Blk.tot
    rcases List.mem_cons.mp h with rfl | h
    · omega
    · have := blk_tot_at h; omega
theorem fo_take_len : ∀ (b : Blk) (i : Nat), ((b.l.take i).flatMap fun s => s.wcb.fst).length ≤ b.tot
  | .nil, i => by unfold Blk.l; rw [List.take_nil]; exact Nat.zero_le _
  | .cons x r, 0 => by rw [List.take_zero]; exact Nat.zero_le _
  | .cons x r, i + 1 => by
    have h1 := fo_take_len r i
    have h2 := Stm.fst_tot x
    unfold Blk.l Blk.tot
    rw [List.take_succ_cons, List.flatMap_cons, List.length_append]
    omega
theorem iteL_eq {t : Ex} {a b : Blk} (h : a = b) : iteL t a b = a.l := by unfold iteL; rw [if_pos h]
theorem iteL_if {t : Ex} {a b : Blk} (h : ¬ a = b) (hn : ∀ n, t ≠ .num n) : iteL t a b = [.ite t a b] := by
  unfold iteL
  rw [if_neg h]
  split
  · exact absurd rfl (hn _)
  · rfl
theorem iteL_num {n : Int} {a b : Blk} (h : ¬ a = b) : iteL (.num n) a b = if n = 0 then b.l else a.l := by
  unfold iteL
  rw [if_neg h]
end Gm
set_option Elab.async false
set_option linter.all false
set_option maxRecDepth 100000
set_option maxHeartbeats 4000000
/-! All statements of a block; what statements read and write. -/
namespace Gm
open PySem L2
open PyData (strOk)
mutual
def Stm.all : Stm → List Stm
  | .ite e a b => .ite e a b :: (a.all ++ b.all)
  | .after a => .after a :: a.all
  | .set x e => [.set x e]
  | .lt x e => [.lt x e]
  | .draw x e => [.draw x e]
  | .put x e f => [.put x e f]
  | .lot x o e => [.lot x o e]
  | .ask x o e => [.ask x o e]
  | .bad => [.bad]
def Blk.all : Blk → List Stm
  | .nil => []
  | .cons s r => s.all ++ r.all
end
def Stm.inner : Stm → List Blk
  | .ite _ a b => [a, b]
  | .after a => [a]
  | _ => []
theorem Stm.all_eq (s : Stm) : s.all = s :: s.inner.flatMap Blk.all := by
  cases s <;> (unfold Stm.all; try rfl)
  · show _ = _ :: ([_, _] : List Blk).flatMap Blk.all
    rw [List.flatMap_cons, List.flatMap_cons, List.flatMap_nil, List.append_nil]
  · show _ = _ :: ([_] : List Blk).flatMap Blk.all
    rw [List.flatMap_cons, List.flatMap_nil, List.append_nil]
theorem Blk.all_l : ∀ b : Blk, b.all = b.l.flatMap Stm.all
  | .nil => by unfold Blk.all Blk.l; rfl
  | .cons s r => by
    unfold Blk.all Blk.l
    rw [Blk.all_l r, List.flatMap_cons]
mutual
theorem Stm.all_len : ∀ s : Stm, s.all.length = s.tot
  | .ite e a b => by unfold Stm.all Stm.tot; rw [List.length_cons, List.length_append, Blk.all_len a, Blk.all_len b]; omega
  | .after a => by unfold Stm.all Stm.tot; rw [List.length_cons, Blk.all_len a]; omega
  | .set _ _ => by unfold Stm.all Stm.tot; rfl
  | .lt _ _ => by unfold Stm.all Stm.tot; rfl
  | .draw _ _ => by unfold Stm.all Stm.tot; rfl
  | .put _ _ _ => by unfold Stm.all Stm.tot; rfl
  | .lot _ _ _ => by unfold Stm.all Stm.tot; rfl
  | .ask _ _ _ => by unfold Stm.all Stm.tot; rfl
  | .bad => by unfold Stm.all Stm.tot; rfl
theorem Blk.all_len : ∀ b : Blk, b.all.length = b.tot
  | .nil => by unfold Blk.all Blk.tot; rfl
  | .cons s r => by unfold Blk.all Blk.tot; rw [List.length_append, Stm.all_len s, Blk.all_len r]
end
mutual
theorem Stm.all_fit {k : Nat} : ∀ {d : Nat} {s : Stm}, stF k d s → ∀ x ∈ s.all, stF k d x
  | 0, .ite _ _ _, h, _, _ => by unfold stF at h; exact h.elim
  | d + 1, .ite e a b, h, x, hx => by
    unfold Stm.all at hx
    rcases List.mem_cons.mp hx with rfl | hx
    · exact h
    · unfold stF at h
      rcases List.mem_append.mp hx with hx | hx
      · exact stF.mono (Nat.le_refl _) (Blk.all_fit h.2.1 x hx) (by omega)
      · exact stF.mono (Nat.le_refl _) (Blk.all_fit h.2.2.1 x hx) (by omega)
  | 0, .after _, h, _, _ => by unfold stF at h; exact h.elim
  | d + 1, .after a, h, x, hx => by
    unfold Stm.all at hx
    rcases List.mem_cons.mp hx with rfl | hx
    · exact h
    · unfold stF at h
      exact stF.mono (Nat.le_refl _) (Blk.all_fit h.1 x hx) (by omega)
  | d, .set _ _, h, x, hx => by unfold Stm.all at hx; rw [List.mem_singleton.mp hx]; exact h
  | d, .lt _ _, h, x, hx => by unfold Stm.all at hx; rw [List.mem_singleton.mp hx]; exact h
  | d, .draw _ _, h, x, hx => by unfold Stm.all at hx; rw [List.mem_singleton.mp hx]; exact h
  | d, .put _ _ _, h, x, hx => by unfold Stm.all at hx; rw [List.mem_singleton.mp hx]; exact h
  | d, .lot _ _ _, h, x, hx => by unfold Stm.all at hx; rw [List.mem_singleton.mp hx]; exact h
  | d, .ask _ _ _, h, x, hx => by unfold Stm.all at hx; rw [List.mem_singleton.mp hx]; exact h
  | d, .bad, h, x, hx => by unfold Stm.all at hx; rw [List.mem_singleton.mp hx]; exact h
theorem Blk.all_fit {k : Nat} : ∀ {d : Nat} {b : Blk}, blF k d b → ∀ x ∈ b.all, stF k d x
  | d, .nil, _, x, hx => by unfold Blk.all at hx; cases hx
  | d, .cons s r, h, x, hx => by
    unfold Blk.all at hx
    unfold blF at h
    rcases List.mem_append.mp hx with hx | hx
    · exact Stm.all_fit h.1 x hx
    · exact Blk.all_fit h.2 x hx
end
/-! ### places -/
def Stm.own : Stm → List Ex
  | .set _ e => [e]
  | .lt _ e => [e]
  | .put _ e f => [e, f]
  | .lot _ _ e => [e]
  | .ask _ _ e => [e]
  | .ite e _ _ => [e]
  | _ => []
/-- what a statement itself reads behind its expressions -/
def Stm.rd2 : Stm → List (Str × Str)
  | .lot _ o _ => [("lots", o)]
  | .after _ => [("bad", "")]
  | _ => []
def Stm.rd (s : Stm) : List (Str × Str) := s.own.flatMap Ex.reads ++ s.rd2
def Blk.rds (b : Blk) : List (Str × Str) := b.all.flatMap Stm.rd
def Stm.wr : Stm → List (Str × Str)
  | .set x _ => [("variable", x)]
  | .lt x _ => [("local", x)]
  | .draw x _ => [("local", x)]
  | .put x _ _ => [("table", x)]
  | .lot x o _ => [("local", x), ("lots", o)]
  | .ask x _ _ => [("local", x)]
  | .bad => [("bad", "")]
  | _ => []
def Pr.rds (p : Pr) : List (Str × Str) := p.block.rds ++ p.res.reads
theorem own_fit {k d : Nat} {s : Stm} (h : stF k d s) : ∀ e ∈ s.own, exF k e := by
  intro e he
  cases s with
  | ite e a b =>
    cases d with
    | zero => unfold stF at h; exact h.elim
    | succ d => unfold stF at h; rw [List.mem_singleton.mp he]; exact h.1
  | after a => cases he
  | set x e => unfold stF at h; rw [List.mem_singleton.mp he]; exact h.2
  | lt x e => unfold stF at h; rw [List.mem_singleton.mp he]; exact h.2
  | draw x e => cases he
  | put x e f =>
    unfold stF at h
    simp only [Stm.own, List.mem_cons, List.not_mem_nil, or_false] at he
    rcases he with rfl | rfl
    · exact h.2.1
    · exact h.2.2
  | lot x o e => unfold stF at h; rw [List.mem_singleton.mp he]; exact h.2.2
  | ask x o e => unfold stF at h; rw [List.mem_singleton.mp he]; exact h.2.2
  | bad => cases he
theorem own_len (s : Stm) : s.own.length ≤ 2 := by cases s <;> simp [Stm.own]
theorem rd2_len (s : Stm) : s.rd2.length ≤ 1 := by cases s <;> simp [Stm.rd2]
theorem reads_len2 {k : Nat} {e : Ex} (h : exF k e) : e.reads.length + 1 ≤ 2 ^ k := Nat.le_trans (Nat.succ_le_succ (List.length_filterMap_le _ _)) (Ex.subs_len h)
theorem flat_len {α β : Type} {f : α → List β} {n : Nat} : ∀ {l : List α}, (∀ x ∈ l, (f x).length ≤ n) → (l.flatMap f).length ≤ l.length * n
  | [], _ => Nat.zero_le _
  | a :: l, h => by
    have h1 := h a (List.mem_cons_self ..)
    have h2 := flat_len (l := l) fun x hx => h x (List.mem_cons_of_mem _ hx)
    rw [List.flatMap_cons, List.length_append, List.length_cons, Nat.succ_mul]
    omega
theorem rd_len {k d : Nat} {s : Stm} (h : stF k d s) : s.rd.length ≤ 2 * 2 ^ k + 1 := by
  have h1 := flat_len (f := Ex.reads) (n := 2 ^ k) (l := s.own) fun e he => Nat.le_of_succ_le (reads_len2 (own_fit h e he))
  have h2 := own_len s
  have h3 := rd2_len s
  have h4 := Nat.mul_le_mul_right (2 ^ k) h2
  unfold Stm.rd
  rw [List.length_append]
  omega
theorem rds_len {k d : Nat} {b : Blk} (h : blF k d b) : b.rds.length ≤ b.tot * (2 * 2 ^ k + 1) := by
  have := flat_len (f := Stm.rd) (n := 2 * 2 ^ k + 1) (l := b.all) fun s hs => rd_len (Blk.all_fit h s hs)
  rw [Blk.all_len] at this
  exact this
theorem nolAll_blk : ∀ bs : List Blk, nolAll (bs.map Blk.d) = true
  | [] => rfl
  | b :: bs => by
    show (nol b.d && nolAll (bs.map Blk.d)) = true
    rw [nolAll_blk bs, show nol b.d = true by unfold Blk.d nol; exact Blk.nol b]
    rfl
theorem take_flat {α β : Type} {f : α → List β} : ∀ (l : List α) (i : Nat), ((l.take i).flatMap f).length ≤ (l.flatMap f).length
  | [], i => by rw [List.take_nil]; exact Nat.le_refl _
  | a :: l, 0 => by rw [List.take_zero]; exact Nat.zero_le _
  | a :: l, i + 1 => by
    have := take_flat (f := f) l i
    rw [List.take_succ_cons, List.flatMap_cons, List.flatMap_cons, List.length_append, List.length_append]
    omega
theorem all_take (b : Blk) (i : Nat) : ((b.l.take i).flatMap Stm.all).length ≤ b.tot := by
  have := take_flat (f := Stm.all) b.l i
  rw [← Blk.all_l, Blk.all_len] at this
  exact this
theorem inner_take (s : Stm) (i : Nat) : ((s.inner.take i).flatMap Blk.all).length ≤ s.tot := by
  have h := take_flat (f := Blk.all) s.inner i
  have e := Stm.all_len s
  rw [Stm.all_eq, List.length_cons] at e
  omega
theorem inner_fit {k d : Nat} {s : Stm} (h : stF k d s) : ∀ b ∈ s.inner, ∃ j, d = j + 1 ∧ blF k j b ∧ b.tot ≤ s.tot := by
  intro b hb
  cases s with
  | ite e x y =>
    cases d with
    | zero => unfold stF at h; exact h.elim
    | succ d =>
      unfold stF at h
      refine ⟨d, rfl, ?_⟩
      simp only [Stm.inner, List.mem_cons, List.not_mem_nil, or_false] at hb
      unfold Stm.tot
      rcases hb with rfl | rfl
      · exact ⟨h.2.1, by omega⟩
      · exact ⟨h.2.2.1, by omega⟩
  | after x =>
    cases d with
    | zero => unfold stF at h; exact h.elim
    | succ d =>
      unfold stF at h
      refine ⟨d, rfl, ?_⟩
      simp only [Stm.inner, List.mem_cons, List.not_mem_nil, or_false] at hb
      unfold Stm.tot
      rw [hb]
      exact ⟨h.1, by omega⟩
  | _ => cases hb
theorem ite_is {s : Stm} (h : s.kind = "if") : ∃ t a b, s = .ite t a b := by
  cases s <;> first | exact ⟨_, _, _, rfl⟩ | (dsimp only [Stm.kind] at h; exact absurd h (by decide +kernel))
theorem after_is {s : Stm} (h : s.kind = "after") : ∃ a, s = .after a := by
  cases s <;> first | exact ⟨_, rfl⟩ | (dsimp only [Stm.kind] at h; exact absurd h (by decide +kernel))
end Gm
set_option Elab.async false
set_option linter.all false
set_option maxRecDepth 100000
set_option maxHeartbeats 4000000
/-! What the laws tell of reads and writes. -/
namespace Gm
open PySem L2
open PyData (strOk)
def usB (p : Str × Str) : Str := if p.1 = "bad" then "bad" else usT p
mutual
def Stm.tr : Stm → List (Str × Str)
  | .ite e a b => e.reads ++ a.tr ++ b.tr
  | .after a => [(("bad" : Str), ("" : Str))] ++ a.tr
  | .set _ e => e.reads
  | .lt _ e => e.reads
  | .draw _ _ => []
  | .put _ e f => e.reads ++ f.reads
  | .lot _ o e => [(("lots" : Str), o)] ++ e.reads
  | .ask _ _ e => e.reads
  | .bad => []
def Blk.tr : Blk → List (Str × Str)
  | .nil => []
  | .cons s r => s.tr ++ r.tr
end
theorem Blk.tr_l : ∀ b : Blk, b.tr = b.l.flatMap Stm.tr
  | .nil => by unfold Blk.tr Blk.l; rfl
  | .cons s r => by
    unfold Blk.tr Blk.l
    rw [Blk.tr_l r, List.flatMap_cons]
def Blk.tw (b : Blk) : List (Str × Str) := b.all.flatMap Stm.wr
def Stm.tw (s : Stm) : List (Str × Str) := s.all.flatMap Stm.wr
theorem Blk.tw_l (b : Blk) : b.tw = b.l.flatMap Stm.tw := by
  unfold Blk.tw
  rw [Blk.all_l, List.flatMap_assoc]
  rfl
theorem wr_len (s : Stm) : s.wr.length ≤ 2 := by cases s <;> simp [Stm.wr]
theorem Blk.tw_len (b : Blk) : b.tw.length ≤ b.tot * 2 := by
  have := flat_len (f := Stm.wr) (n := 2) (l := b.all) fun s _ => wr_len s
  rw [Blk.all_len] at this
  exact this
theorem tw_take (b : Blk) (i : Nat) : ((b.l.take i).flatMap Stm.tw).length ≤ b.tot * 2 := by
  have := take_flat (f := Stm.tw) b.l i
  rw [← Blk.tw_l] at this
  exact Nat.le_trans this b.tw_len
mutual
theorem Stm.tr_mem (p : Str × Str) : ∀ s : Stm, p ∈ s.tr ↔ p ∈ s.all.flatMap Stm.rd
  | .ite e a b => by
    have h1 := Blk.tr_mem p a
    have h2 := Blk.tr_mem p b
    unfold Stm.tr Stm.all
    rw [List.flatMap_cons, List.flatMap_append, List.mem_append, List.mem_append, List.mem_append, List.mem_append, h1, h2]
    simp only [Stm.rd, Stm.own, Stm.rd2, Blk.rds, List.flatMap_cons, List.flatMap_nil, List.append_nil, or_assoc]
  | .after a => by
    have h1 := Blk.tr_mem p a
    unfold Stm.tr Stm.all
    rw [List.flatMap_cons, List.mem_append, List.mem_append, h1]
    simp only [Stm.rd, Stm.own, Stm.rd2, Blk.rds, List.flatMap_nil, List.nil_append]
  | .set _ _ => by unfold Stm.tr Stm.all; simp [Stm.rd, Stm.own, Stm.rd2]
  | .lt _ _ => by unfold Stm.tr Stm.all; simp [Stm.rd, Stm.own, Stm.rd2]
  | .draw _ _ => by unfold Stm.tr Stm.all; simp [Stm.rd, Stm.own, Stm.rd2]
  | .put _ _ _ => by unfold Stm.tr Stm.all; simp [Stm.rd, Stm.own, Stm.rd2]
  | .lot _ _ _ => by unfold Stm.tr Stm.all; simp [Stm.rd, Stm.own, Stm.rd2, or_comm]
  | .ask _ _ _ => by unfold Stm.tr Stm.all; simp [Stm.rd, Stm.own, Stm.rd2]
  | .bad => by unfold Stm.tr Stm.all; simp [Stm.rd, Stm.own, Stm.rd2]
theorem Blk.tr_mem (p : Str × Str) : ∀ b : Blk, p ∈ b.tr ↔ p ∈ b.rds
  | .nil => by unfold Blk.tr Blk.rds Blk.all; rfl
  | .cons s r => by
    have h1 := Stm.tr_mem p s
    have h2 := Blk.tr_mem p r
    unfold Blk.tr Blk.rds Blk.all
    unfold Blk.rds at h2
    rw [List.flatMap_append, List.mem_append, List.mem_append, h1, h2]
end
mutual
theorem Stm.tr_len {k : Nat} (hk : 2 ^ k ≤ 64) : ∀ {d : Nat} {s : Stm}, stF k d s → s.tr.length ≤ s.tot * 129
  | 0, .ite _ _ _, h => by unfold stF at h; exact h.elim
  | d + 1, .ite e a b, h => by
    unfold stF at h
    have h1 := Blk.tr_len hk h.2.1
    have h2 := Blk.tr_len hk h.2.2.1
    have h3 := reads_len2 h.1
    unfold Stm.tr Stm.tot
    simp only [List.length_append]
    omega
  | 0, .after _, h => by unfold stF at h; exact h.elim
  | d + 1, .after a, h => by
    unfold stF at h
    have h1 := Blk.tr_len hk h.1
    unfold Stm.tr Stm.tot
    simp only [List.length_append, List.length_singleton]
    omega
  | d, .set x e, h => by unfold stF at h; have h3 := reads_len2 h.2; unfold Stm.tr Stm.tot; omega
  | d, .lt x e, h => by unfold stF at h; have h3 := reads_len2 h.2; unfold Stm.tr Stm.tot; omega
  | d, .draw x e, h => by unfold Stm.tr; exact Nat.zero_le _
  | d, .put x e f, h => by unfold stF at h; have h3 := reads_len2 h.2.1; have h4 := reads_len2 h.2.2; unfold Stm.tr Stm.tot; rw [List.length_append]; omega
  | d, .lot x o e, h => by unfold stF at h; have h3 := reads_len2 h.2.2; unfold Stm.tr Stm.tot; rw [List.length_append, List.length_singleton]; omega
  | d, .ask x o e, h => by unfold stF at h; have h3 := reads_len2 h.2.2; unfold Stm.tr Stm.tot; omega
  | d, .bad, h => by unfold Stm.tr; exact Nat.zero_le _
theorem Blk.tr_len {k : Nat} (hk : 2 ^ k ≤ 64) : ∀ {d : Nat} {b : Blk}, blF k d b → b.tr.length ≤ b.tot * 129
  | d, .nil, h => by unfold Blk.tr; exact Nat.zero_le _
  | d, .cons s r, h => by
    unfold blF at h
    have h1 := Stm.tr_len hk h.1
    have h2 := Blk.tr_len hk h.2
    unfold Blk.tr Blk.tot
    rw [List.length_append]
    omega
end
theorem tr_take {k d : Nat} {b : Blk} (hk : 2 ^ k ≤ 64) (h : blF k d b) (i : Nat) : ((b.l.take i).flatMap Stm.tr).length ≤ b.tot * 129 := by
  have := take_flat (f := Stm.tr) b.l i
  rw [← Blk.tr_l] at this
  exact Nat.le_trans this (Blk.tr_len hk h)
theorem rd1_kind {e : Ex} {p : Str × Str} (h : e.rd1 = some p) : p.1 ≠ "bad" := by
  rcases kinds_rd h with e | e | e <;> rw [e] <;> decide +kernel
theorem us_reads (e : Ex) : e.reads.map usT = e.reads.map usB := by
  refine List.map_congr_left fun p hp => ?_
  obtain ⟨x, _, e1⟩ := List.mem_filterMap.mp hp
  unfold usB
  rw [if_neg (rd1_kind e1)]
/-- the two lists of the law, fresh and apart -/
structure TwL (H H' : Hp) (L1 L2 : Addr) (S1 S2 : List (Str × Str)) : Prop where
  s : Same H H'
  f1 : H L1 = none
  f2 : H L2 = none
  ne : L1 ≠ L2
  l1 : H' L1 = some (.lst ((S1.map usB).map V.str))
  l2 : H' L2 = some (.lst ((S2.map usB).map V.str))
section
variable {H H' H2 : Hp} {L1 L2 p : Addr} {S1 S2 Z : List (Str × Str)} {xs : List V}
theorem TwL.grow (t : TwL H H' L1 L2 S1 S2) (m : Same H' H2) : TwL H H2 L1 L2 S1 S2 := ⟨t.s.trans m, t.f1, t.f2, t.ne, m _ _ t.l1, m _ _ t.l2⟩
theorem TwL.new1 (t : TwL H H' L1 L2 S1 S2) (hp : H' p = none) (e : xs = (Z.map usB).map V.str) : TwL H (upd H' p (.lst xs)) p L2 Z S2 := by
  have m := same_new hp (.lst xs)
  refine ⟨t.s.trans m, ?_, t.f2, fun z => (by rw [z, t.l2] at hp; cases hp), by rw [upd_same, e], m _ _ t.l2⟩
  cases h : H p with
  | none => rfl
  | some o => rw [t.s _ _ h] at hp; cases hp
theorem TwL.new2 (t : TwL H H' L1 L2 S1 S2) (hp : H' p = none) (e : xs = (Z.map usB).map V.str) : TwL H (upd H' p (.lst xs)) L1 p S1 Z := by
  have m := same_new hp (.lst xs)
  refine ⟨t.s.trans m, t.f1, ?_, fun z => (by rw [← z, t.l1] at hp; cases hp), m _ _ t.l1, by rw [upd_same, e]⟩
  cases h : H p with
  | none => rfl
  | some o => rw [t.s _ _ h] at hp; cases hp
theorem TwL.put1 (t : TwL H H' L1 L2 S1 S2) (e : xs = (Z.map usB).map V.str) : TwL H (upd H' L1 (.lst xs)) L1 L2 Z S2 :=
  ⟨fun b o z => by rw [upd_ne (ne_of_none z t.f1)]; exact t.s _ _ z, t.f1, t.f2, t.ne, by rw [upd_same, e], by rw [upd_ne t.ne.symm]; exact t.l2⟩
theorem TwL.put2 (t : TwL H H' L1 L2 S1 S2) (e : xs = (Z.map usB).map V.str) : TwL H (upd H' L2 (.lst xs)) L1 L2 S1 Z :=
  ⟨fun b o z => by rw [upd_ne (ne_of_none z t.f2)]; exact t.s _ _ z, t.f1, t.f2, t.ne, by rw [upd_ne t.ne]; exact t.l1, by rw [upd_same, e]⟩
end
theorem us2 (A B : List (Str × Str)) : (A.map usB).map V.str ++ (B.map usB).map V.str = ((A ++ B).map usB).map V.str := by rw [List.map_append, List.map_append]
theorem us1 (p : Str × Str) : [V.str (usB p)] = (([p] : List (Str × Str)).map usB).map V.str := rfl
end Gm
set_option Elab.async false
set_option linter.all false
set_option maxRecDepth 100000
set_option maxHeartbeats 4000000
/-! Games with other names of tables, lots and procedures. -/
namespace Gm
open PySem L2
open PyData (strOk)
def Ex.ren (f : Str → Str) : Ex → Ex
  | .num n => .num n
  | .loc x => .loc x
  | .var x => .var x
  | .has t e => .has (f t) (e.ren f)
  | .cell t e => .cell (f t) (e.ren f)
  | .op o a b => .op o (a.ren f) (b.ren f)
def Ex.Nm (N : List Str) : Ex → Prop
  | .has t e => t ∈ N ∧ e.Nm N
  | .cell t e => t ∈ N ∧ e.Nm N
  | .op _ a b => a.Nm N ∧ b.Nm N
  | _ => True
mutual
def Stm.ren (f : Str → Str) : Stm → Stm
  | .set x e => .set x (e.ren f)
  | .lt x e => .lt x (e.ren f)
  | .draw x n => .draw x n
  | .put t e g => .put (f t) (e.ren f) (g.ren f)
  | .lot l o e => .lot l (f o) (e.ren f)
  | .ask l o e => .ask l o (e.ren f)
  | .ite e a b => .ite (e.ren f) (a.ren f) (b.ren f)
  | .bad => .bad
  | .after a => .after (a.ren f)
def Blk.ren (f : Str → Str) : Blk → Blk
  | .nil => .nil
  | .cons s r => .cons (s.ren f) (r.ren f)
end
mutual
def Stm.Nm (N : List Str) : Stm → Prop
  | .set _ e => e.Nm N
  | .lt _ e => e.Nm N
  | .draw _ _ => True
  | .put t e g => t ∈ N ∧ e.Nm N ∧ g.Nm N
  | .lot _ o e => o ∈ N ∧ e.Nm N
  | .ask _ _ _ => False
  | .ite e a b => e.Nm N ∧ a.Nm N ∧ b.Nm N
  | .bad => True
  | .after a => a.Nm N
def Blk.Nm (N : List Str) : Blk → Prop
  | .nil => True
  | .cons s r => s.Nm N ∧ r.Nm N
end
theorem Blk.ren_l (f : Str → Str) : ∀ b : Blk, (b.ren f).l = b.l.map (Stm.ren f)
  | .nil => by unfold Blk.ren Blk.l; rfl
  | .cons s r => by
    unfold Blk.ren Blk.l
    rw [Blk.ren_l f r, List.map_cons]
theorem Blk.nm_l {N : List Str} : ∀ {b : Blk}, b.Nm N → ∀ s ∈ b.l, s.Nm N
  | .nil, _, s, hs => by unfold Blk.l at hs; cases hs
  | .cons x r, h, s, hs => by
    unfold Blk.Nm at h
    unfold Blk.l at hs
    rcases List.mem_cons.mp hs with rfl | hs
    · exact h.1
    · exact Blk.nm_l h.2 s hs
theorem Blk.nm_of {N : List Str} : ∀ {l : List Stm}, (∀ s ∈ l, s.Nm N) → (Blk.of l).Nm N
  | [], _ => by show Blk.nil.Nm N; unfold Blk.Nm; trivial
  | s :: l, h => by
    show (Blk.cons s (Blk.of l)).Nm N
    unfold Blk.Nm
    exact ⟨h s (List.mem_cons_self ..), Blk.nm_of fun x hx => h x (List.mem_cons_of_mem _ hx)⟩
theorem Blk.ren_len (f : Str → Str) (b : Blk) : (b.ren f).len = b.len := by rw [← Blk.len_l, ← Blk.len_l, Blk.ren_l, List.length_map]
mutual
theorem Stm.ren_tot (f : Str → Str) : ∀ s : Stm, (s.ren f).tot = s.tot
  | .ite e a b => by unfold Stm.ren Stm.tot; rw [Blk.ren_tot f a, Blk.ren_tot f b]
  | .after a => by unfold Stm.ren Stm.tot; rw [Blk.ren_tot f a]
  | .set _ _ => by unfold Stm.ren Stm.tot; rfl
  | .lt _ _ => by unfold Stm.ren Stm.tot; rfl
  | .draw _ _ => by unfold Stm.ren Stm.tot; rfl
  | .put _ _ _ => by unfold Stm.ren Stm.tot; rfl
  | .lot _ _ _ => by unfold Stm.ren Stm.tot; rfl
  | .ask _ _ _ => by unfold Stm.ren Stm.tot; rfl
  | .bad => by unfold Stm.ren Stm.tot; rfl
theorem Blk.ren_tot (f : Str → Str) : ∀ b : Blk, (b.ren f).tot = b.tot
  | .nil => by unfold Blk.ren Blk.tot; rfl
  | .cons s r => by unfold Blk.ren Blk.tot; rw [Stm.ren_tot f s, Blk.ren_tot f r]
end
section
variable {f : Str → Str} {N : List Str} (hf : ∀ x ∈ N, nmB (f x) = true)
include hf
theorem Ex.ren_fit : ∀ {k : Nat} {e : Ex}, exF k e → e.Nm N → exF k (e.ren f)
  | 0, _, h, _ => h.elim
  | k + 1, .num n, h, _ => h
  | k + 1, .loc n, h, _ => h
  | k + 1, .var n, h, _ => h
  | k + 1, .has t e, h, n => ⟨hf t n.1, Ex.ren_fit h.2 n.2⟩
  | k + 1, .cell t e, h, n => ⟨hf t n.1, Ex.ren_fit h.2 n.2⟩
  | k + 1, .op o a b, h, n => ⟨h.1, Ex.ren_fit h.2.1 n.1, Ex.ren_fit h.2.2 n.2⟩
mutual
theorem Stm.ren_fit {k : Nat} : ∀ {d : Nat} {s : Stm}, stF k d s → s.Nm N → stF k d (s.ren f)
  | 0, .ite _ _ _, h, _ => by unfold stF at h; exact h.elim
  | d + 1, .ite e a b, h, n => by
    unfold stF at h
    unfold Stm.Nm at n
    unfold Stm.ren stF
    rw [Blk.ren_len, Blk.ren_len]
    exact ⟨Ex.ren_fit hf h.1 n.1, Blk.ren_fit h.2.1 n.2.1, Blk.ren_fit h.2.2.1 n.2.2, h.2.2.2.1, h.2.2.2.2⟩
  | 0, .after _, h, _ => by unfold stF at h; exact h.elim
  | d + 1, .after a, h, n => by
    unfold stF at h
    unfold Stm.Nm at n
    unfold Stm.ren stF
    rw [Blk.ren_len]
    exact ⟨Blk.ren_fit h.1 n, h.2⟩
  | d, .set x e, h, n => by unfold stF at h; unfold Stm.Nm at n; unfold Stm.ren stF; exact ⟨h.1, Ex.ren_fit hf h.2 n⟩
  | d, .lt x e, h, n => by unfold stF at h; unfold Stm.Nm at n; unfold Stm.ren stF; exact ⟨h.1, Ex.ren_fit hf h.2 n⟩
  | d, .draw x e, h, n => by unfold Stm.ren; exact h
  | d, .put x e g, h, n => by unfold stF at h; unfold Stm.Nm at n; unfold Stm.ren stF; exact ⟨hf x n.1, Ex.ren_fit hf h.2.1 n.2.1, Ex.ren_fit hf h.2.2 n.2.2⟩
  | d, .lot x o e, h, n => by unfold stF at h; unfold Stm.Nm at n; unfold Stm.ren stF; exact ⟨h.1, hf o n.1, Ex.ren_fit hf h.2.2 n.2⟩
  | d, .ask x o e, h, n => by unfold Stm.Nm at n; exact n.elim
  | d, .bad, h, n => by unfold Stm.ren; exact h
theorem Blk.ren_fit {k : Nat} : ∀ {d : Nat} {b : Blk}, blF k d b → b.Nm N → blF k d (b.ren f)
  | d, .nil, _, _ => by unfold Blk.ren blF; trivial
  | d, .cons s r, h, n => by
    unfold blF at h
    unfold Blk.Nm at n
    unfold Blk.ren blF
    exact ⟨Stm.ren_fit h.1 n.1, Blk.ren_fit h.2 n.2⟩
end
end
/-- a dict of names: what it tells of those in N -/
def DcN (H : Hp) (d : Addr) (f : Str → Str) (N : List Str) : Prop := (∃ o, H d = some o) ∧ ∀ x ∈ N, ∀ H', Same H H' → DGet H' d (.str x) (some (.str (f x)))
theorem DcN.grow {H H' : Hp} {d : Addr} {f : Str → Str} {N : List Str} (h : DcN H d f N) (m : Same H H') : DcN H' d f N := ⟨let ⟨o, e⟩ := h.1; ⟨o, m _ _ e⟩, fun x hx H2 m2 => h.2 x hx H2 (m.trans m2)⟩
theorem DcN.get {H : Hp} {d : Addr} {f : Str → Str} {N : List Str} (h : DcN H d f N) {x : Str} (hx : x ∈ N) : DGet H d (.str x) (some (.str (f x))) := h.2 x hx H (Same.refl _)
end Gm
set_option Elab.async false
set_option linter.all false
set_option maxRecDepth 100000
set_option maxHeartbeats 4000000
/-! How large drawn games are; their names. -/
namespace Gm
open PySem L2
open PyData (strOk)
/-! ### how large -/
theorem tot_nil : Blk.nil.tot = 0 := by unfold Blk.tot; rfl
theorem tot_cons (s : Stm) (r : Blk) : (Blk.cons s r).tot = s.tot + r.tot := by rw [Blk.tot]
theorem tot_app : ∀ (l m : List Stm), (Blk.of (l ++ m)).tot = (Blk.of l).tot + (Blk.of m).tot
  | [], m => by show (Blk.of m).tot = Blk.nil.tot + _; rw [tot_nil, Nat.zero_add]
  | s :: l, m => by
    have ih := tot_app l m
    show (Blk.cons s (Blk.of (l ++ m))).tot = (Blk.cons s (Blk.of l)).tot + _
    rw [tot_cons, tot_cons, ih]
    omega
theorem tot_one (s : Stm) : (Blk.of [s]).tot = s.tot := by
  show (Blk.cons s Blk.nil).tot = _
  unfold Blk.tot
  rw [tot_nil]
  rfl
def bd : Nat → Nat
  | 0 => 1
  | d + 1 => 1 + 8 * bd d
mutual
theorem tot_ok {s : Sc} {k : Nat} : ∀ {d : Nat} {x : Stm}, x.Ok s k d → x.tot ≤ bd d
  | 0, .ite _ _ _, h => by unfold Stm.Ok at h; exact h.elim
  | d + 1, .ite e a b, h => by
    unfold Stm.Ok at h
    have h1 := tot_okB h.2.1
    have h2 := tot_okB h.2.2.1
    have h3 := Nat.mul_le_mul_right (bd d) h.2.2.2.1
    have h4 := Nat.mul_le_mul_right (bd d) h.2.2.2.2
    unfold Stm.tot bd
    omega
  | 0, .after _, h => by unfold Stm.Ok at h; exact h.elim
  | d + 1, .after a, h => by
    unfold Stm.Ok at h
    have h1 := tot_okB h.1
    have h3 := Nat.mul_le_mul_right (bd d) h.2
    unfold Stm.tot bd
    omega
  | d, .set y e, h => by unfold Stm.tot; exact bd_pos d
  | d, .lt y e, h => by unfold Stm.tot; exact bd_pos d
  | d, .draw y e, h => by unfold Stm.tot; exact bd_pos d
  | d, .put y e f, h => by unfold Stm.tot; exact bd_pos d
  | d, .lot y o e, h => by unfold Stm.tot; exact bd_pos d
  | d, .ask y o e, h => by unfold Stm.tot; exact bd_pos d
  | d, .bad, h => by unfold Stm.tot; exact bd_pos d
theorem tot_okB {s : Sc} {k : Nat} : ∀ {d : Nat} {b : Blk}, b.Ok s k d → b.tot ≤ b.len * bd d
  | d, .nil, _ => by unfold Blk.tot; exact Nat.zero_le _
  | d, .cons x r, h => by
    unfold Blk.Ok at h
    have h1 := tot_ok h.1
    have h2 := tot_okB h.2
    unfold Blk.tot Blk.len
    rw [Nat.succ_mul]
    omega
theorem bd_pos : ∀ d : Nat, 1 ≤ bd d
  | 0 => Nat.le_refl _
  | d + 1 => by unfold bd; omega
end
theorem split_at {l : List Stm} {i : Nat} {s : Stm} (h : l[i]? = some s) : l = l.take i ++ [s] ++ l.drop (i + 1) := by
  have h1 := (List.getElem?_eq_some_iff.mp h)
  obtain ⟨h1, h2⟩ := h1
  rw [List.append_assoc]
  conv => lhs; rw [← List.take_append_drop i l, List.drop_eq_getElem_cons h1, h2]
  rfl
theorem tot_set {l : List Stm} {i : Nat} {s t : Stm} (h : l[i]? = some s) : (Blk.of (l.take i ++ [t] ++ l.drop (i + 1))).tot + s.tot = (Blk.of l).tot + t.tot := by
  have e := congrArg (fun l => (Blk.of l).tot) (split_at h)
  rw [e]
  simp only [tot_app, tot_one]
  omega
theorem blk_len_tot : ∀ b : Blk, b.l.length ≤ b.tot
  | .nil => by unfold Blk.l; exact Nat.zero_le _
  | .cons s r => by
    have h1 := blk_len_tot r
    have h2 := Stm.tot_pos s
    unfold Blk.l Blk.tot
    rw [List.length_cons]
    omega
theorem ok_tot {G : Ga} (h : GaOk G) {p : Pr} (hp : p ∈ G.procs) : p.block.tot ≤ 292 := by
  have o := h.proc p hp
  have t := tot_okB o.block
  have l := Nat.mul_le_mul_right (bd 2) o.len.2
  have e : bd 2 = 73 := by decide
  rw [e] at t l
  omega
theorem at_nat {vs : List V} {i : Int} (h0 : 0 ≤ i) (h1 : i < ((vs.length : Nat) : Int)) : ∃ j : Nat, i = (j : Int) ∧ j < vs.length := ⟨i.toNat, by omega, by omega⟩
theorem dps_take {K : PySem.W.Frag} {H : Hp} : ∀ {vs : List V} {ds : List PyData}, DpAll K H vs ds → ∀ i : Nat, DpAll K H (vs.take i) (ds.take i)
  | _, _, _, 0 => by rw [List.take_zero, List.take_zero]; exact .nil
  | _, _, .nil, i + 1 => by rw [List.take_nil, List.take_nil]; exact .nil
  | _, _, .cons h t, i + 1 => .cons h (dps_take t i)
theorem dps_drop {K : PySem.W.Frag} {H : Hp} : ∀ {vs : List V} {ds : List PyData}, DpAll K H vs ds → ∀ i : Nat, DpAll K H (vs.drop i) (ds.drop i)
  | _, _, h, 0 => h
  | _, _, .nil, i + 1 => .nil
  | _, _, .cons h t, i + 1 => dps_drop t i
theorem tot_ite (e : Ex) (a b : Blk) : (Stm.ite e a b).tot = 1 + a.tot + b.tot := by rw [Stm.tot]
theorem tot_aft (a : Blk) : (Stm.after a).tot = 1 + a.tot := by rw [Stm.tot]
theorem dig3 {i : Nat} (h : i < 3) : ∃ d : Int, atI [V.int 30, .int 90, .int 270] (0 + (i : Int)) = some (.int d) ∧ 0 < d ∧ d ≤ 65535 := by
  have : i = 0 ∨ i = 1 ∨ i = 2 := by omega
  rcases this with rfl | rfl | rfl
  · exact ⟨30, rfl, by decide, by decide⟩
  · exact ⟨90, rfl, by decide, by decide⟩
  · exact ⟨270, rfl, by decide, by decide⟩
theorem way3 {r : Int} {x y z : V} : (atI [x, y, z] (r % 3) = some x) ∨ (atI [x, y, z] (r % 3) = some y) ∨ (atI [x, y, z] (r % 3) = some z) := by
  have : r % 3 = 0 ∨ r % 3 = 1 ∨ r % 3 = 2 := by omega
  rcases this with e | e | e <;> rw [e]
  · exact .inl rfl
  · exact .inr (.inl rfl)
  · exact .inr (.inr rfl)
theorem two_locs {G : Ga} (h : GaOk G) {p : Pr} (hp : p ∈ G.procs) : ∃ (x y : Str) (r : List Str), p.locs = x :: y :: r ∧ nmB x = true ∧ nmB y = true := by
  rcases (h.proc p hp).locs with e | e
  · exact ⟨_, _, _, e, by decide +kernel, by decide +kernel⟩
  · exact ⟨_, _, _, e, by decide +kernel, by decide +kernel⟩

theorem Ex.nm_ok {s : Sc} {N : List Str} (h : ∀ t ∈ s.tabs, t ∈ N) : ∀ {k : Nat} {e : Ex}, e.Ok s k → e.Nm N
  | 0, _, o => o.elim
  | _ + 1, .num _, _ => trivial
  | _ + 1, .loc _, _ => trivial
  | _ + 1, .var _, _ => trivial
  | k + 1, .has t e, o => ⟨h t o.1, Ex.nm_ok h o.2⟩
  | k + 1, .cell t e, o => ⟨h t o.1, Ex.nm_ok h o.2⟩
  | k + 1, .op _ a b, o => ⟨Ex.nm_ok h o.2.1, Ex.nm_ok h o.2.2⟩
section
variable {s : Sc} {N : List Str} (h : ∀ t ∈ s.tabs, t ∈ N) (hl : ∀ t ∈ s.lots, t ∈ N) (ha : s.asks = [])
include h hl ha
mutual
theorem Stm.nm_ok {k : Nat} : ∀ {d : Nat} {x : Stm}, x.Ok s k d → x.Nm N
  | 0, .ite _ _ _, o => by unfold Stm.Ok at o; exact o.elim
  | d + 1, .ite e a b, o => by unfold Stm.Ok at o; unfold Stm.Nm; exact ⟨Ex.nm_ok h o.1, Blk.nm_ok o.2.1, Blk.nm_ok o.2.2.1⟩
  | 0, .after _, o => by unfold Stm.Ok at o; exact o.elim
  | d + 1, .after a, o => by unfold Stm.Ok at o; unfold Stm.Nm; exact Blk.nm_ok o.1
  | d, .set _ _, o => by unfold Stm.Ok at o; unfold Stm.Nm; exact Ex.nm_ok h o.2
  | d, .lt _ _, o => by unfold Stm.Ok at o; unfold Stm.Nm; exact Ex.nm_ok h o.2
  | d, .draw _ _, o => by unfold Stm.Nm; trivial
  | d, .put t _ _, o => by unfold Stm.Ok at o; unfold Stm.Nm; exact ⟨h t o.1, Ex.nm_ok h o.2.1, Ex.nm_ok h o.2.2⟩
  | d, .lot _ t _, o => by unfold Stm.Ok at o; unfold Stm.Nm; exact ⟨hl t o.2.1, Ex.nm_ok h o.2.2⟩
  | d, .ask _ _ _, o => by unfold Stm.Ok at o; rw [ha] at o; exact nomatch o.2.1
  | d, .bad, o => by unfold Stm.Nm; trivial
theorem Blk.nm_ok {k : Nat} : ∀ {d : Nat} {b : Blk}, b.Ok s k d → b.Nm N
  | d, .nil, _ => by unfold Blk.Nm; trivial
  | d, .cons x r, o => by unfold Blk.Ok at o; unfold Blk.Nm; exact ⟨Stm.nm_ok o.1, Blk.nm_ok o.2⟩
end
end
def N6 : List Str := ["t", "m", "o", "k", "p", "r"]
structure SunkOk (G : Ga) : Prop where
  n : G.procs.length ≤ 2
  f : GaF 5 5 G
  t : ∀ p ∈ G.procs, p.block.tot ≤ 300 ∧ p.block.l.length ≤ 100
  u : Uniq G.procs
  g : ∀ p ∈ G.procs, p.name ∈ N6 ∧ p.block.Nm N6 ∧ p.res.Nm N6
  rt : ∀ t ∈ G.tabs, t.1 ∈ N6
  rl : ∀ t ∈ G.lots, t.1 ∈ N6
  z : G.vars.length ≤ 2 ∧ G.tabs.length ≤ 2 ∧ G.lots.length ≤ 2
  dl : G.lots.map (·.1) = ([] : List Str) ∨ G.lots.map (·.1) = (["o"] : List Str) ∨ G.lots.map (·.1) = (["o", "k"] : List Str)
  cl : ∀ t ∈ G.lots, t.2.2 = 2
theorem rows2 {α : Type} {ts : List (Str × α)} {a b : Str} (h : ts.map (·.1) = ([] : List Str) ∨ ts.map (·.1) = ([a] : List Str) ∨ ts.map (·.1) = ([a, b] : List Str)) : ts.length ≤ 2 ∧ ∀ t ∈ ts, t.1 = a ∨ t.1 = b := by
  refine ⟨?_, fun t ht => ?_⟩
  · rw [← List.length_map (f := (·.1))]
    rcases h with e | e | e <;> rw [e] <;> simp
  · have : t.1 ∈ ts.map (·.1) := List.mem_map.mpr ⟨t, ht, rfl⟩
    rcases h with e | e | e <;> rw [e] at this <;> simp at this
    · exact .inl this
    · exact this
theorem SunkOk.ofOk {G : Ga} (h : GaOk G) : SunkOk G := by
  have z1 := rows2 h.vars
  have z2 := rows2 h.tabs
  have z3 := rows2 h.lots
  have ht : ∀ t ∈ G.tabs, t.1 ∈ N6 := fun t m => by rcases z2.2 t m with e | e <;> rw [e] <;> decide +kernel
  have hl : ∀ t ∈ G.lots, t.1 ∈ N6 := fun t m => by rcases z3.2 t m with e | e <;> rw [e] <;> decide +kernel
  refine ⟨(ga_sizes h).1, (GaF.ofOk h).mono (by decide) (by decide), fun p hp => ?_, .ofOk h, fun p hp => ?_, ht, hl, ⟨z1.1, z2.1, z3.1⟩, h.lots, fun t ht => (h.lot t ht).2⟩
  · have t := ok_tot h hp
    have l := (h.proc p hp).len
    rw [Blk.len_l]
    omega
  · have o := h.proc p hp
    have t1 : ∀ x ∈ (G.sc p.locs []).tabs, x ∈ N6 := fun x hx => by
      obtain ⟨t, m, rfl⟩ := List.mem_map.mp hx
      exact ht t m
    have t2 : ∀ x ∈ (G.sc p.locs []).lots, x ∈ N6 := fun x hx => by
      obtain ⟨t, m, rfl⟩ := List.mem_map.mp hx
      exact hl t m
    refine ⟨?_, Blk.nm_ok t1 t2 rfl o.block, Ex.nm_ok t1 o.res⟩
    have : p.name ∈ G.procs.map (·.name) := List.mem_map.mpr ⟨p, hp, rfl⟩
    rcases h.procs with e | e <;> rw [e] at this <;> simp at this
    · rw [this]; decide +kernel
    · rcases this with e | e <;> rw [e] <;> decide +kernel
end Gm
set_option Elab.async false
set_option linter.all false
set_option maxRecDepth 100000
set_option maxHeartbeats 4000000
/-! Blocks without the writes of one variable or table. -/
namespace Gm
open PySem L2
open PyData (strOk)
/-- the first two parts -/
def Stm.two : Stm → List PyData
  | .bad => [.str "bad"]
  | .set x _ => [.str "set", .str x]
  | .lt x _ => [.str "let", .str x]
  | .draw x _ => [.str "draw", .str x]
  | .put x _ _ => [.str "put", .str x]
  | .lot x _ _ => [.str "lot", .str x]
  | .ask x _ _ => [.str "ask", .str x]
  | .ite e _ _ => [.str "if", e.d]
  | .after a => [.str "after", a.d]
def Stm.isW (st : Str × Str) : Stm → Bool
  | .set x _ => decide ((("set" : Str), x) = st)
  | .put x _ _ => decide ((("put" : Str), x) = st)
  | _ => false
mutual
def Stm.lf (st : Str × Str) : Stm → List Stm
  | .ite e a b => [.ite e (a.lf st) (b.lf st)]
  | .after a => [.after (a.lf st)]
  | .set x e => if Stm.isW st (.set x e) then [] else [.set x e]
  | .lt x e => [.lt x e]
  | .draw x n => [.draw x n]
  | .put x e f => if Stm.isW st (.put x e f) then [] else [.put x e f]
  | .lot l o e => [.lot l o e]
  | .ask l o e => [.ask l o e]
  | .bad => [.bad]
def Blk.lf (st : Str × Str) : Blk → Blk
  | .nil => .nil
  | .cons s r => Blk.of (s.lf st ++ (r.lf st).l)
end
theorem Blk.lf_l (st : Str × Str) : ∀ b : Blk, (b.lf st).l = b.l.flatMap (Stm.lf st)
  | .nil => by unfold Blk.lf Blk.l; rfl
  | .cons s r => by
    unfold Blk.lf
    rw [Blk.l_of, Blk.lf_l st r]
    show _ = (s :: r.l).flatMap _
    rw [List.flatMap_cons]
theorem Stm.lf_len (st : Str × Str) (s : Stm) : (s.lf st).length ≤ 1 := by
  cases s <;> unfold Stm.lf <;> first | exact Nat.le_refl _ | (split <;> first | exact Nat.zero_le _ | exact Nat.le_refl _)
theorem lf_take (st : Str × Str) (b : Blk) (i : Nat) : ((b.l.take i).flatMap (Stm.lf st)).length ≤ b.l.length := by
  have h := flat_len (f := Stm.lf st) (n := 1) (l := b.l.take i) fun s _ => Stm.lf_len st s
  rw [List.length_take] at h
  omega
theorem two_args {s : Stm} (h : s.sim = true) : s.two = (PyData.str s.kind :: s.args).take 2 := by
  cases s <;> first | rfl | cases h
theorem two_fit {k d : Nat} {s : Stm} (h : s.sim = true) (f : stF k d s) : FitAll 1 s.two := by
  have lk : ∀ {x : Str}, nmB x = true → strOk x = true := fun h => nm_ok h
  cases s <;> unfold stF at f <;> unfold Stm.two <;> first | (cases h; done) | exact .cons (.str (by decide +kernel)) (.cons (.str (lk f.1)) .nil) | exact .cons (.str (by decide +kernel)) .nil
open Classical in
theorem lf_sim {st : Str × Str} (hs : st.1 = "set" ∨ st.1 = "put") {s : Stm} (h : s.sim = true) : s.lf st = if s.two = [PyData.str st.1, .str st.2] then [] else [s] := by
  obtain ⟨a, b⟩ := st
  dsimp only at hs ⊢
  have no : ∀ {x y : Str} {p q : List PyData}, x ≠ y → ¬ (PyData.str x :: p = PyData.str y :: q) := fun h e => by injection e with e _; injection e with e; exact h e
  cases s with
  | ite _ _ _ => cases h
  | after _ => cases h
  | set x e =>
    unfold Stm.lf Stm.isW Stm.two
    by_cases c : (("set" : Str), x) = (a, b)
    · rw [if_pos (decide_eq_true c), if_pos (by injection c with c1 c2; rw [c1, c2])]
    · rw [if_neg (fun z => c (of_decide_eq_true z)), if_neg fun e => c (by injection e with e1 e2; injection e1 with e1; injection e2 with e2 _; injection e2 with e2; rw [e1, e2])]
  | put x e f =>
    unfold Stm.lf Stm.isW Stm.two
    by_cases c : (("put" : Str), x) = (a, b)
    · rw [if_pos (decide_eq_true c), if_pos (by injection c with c1 c2; rw [c1, c2])]
    · rw [if_neg (fun z => c (of_decide_eq_true z)), if_neg fun e => c (by injection e with e1 e2; injection e1 with e1; injection e2 with e2 _; injection e2 with e2; rw [e1, e2])]
  | lt x e => unfold Stm.lf Stm.two; rw [if_neg (no (by rcases hs with rfl | rfl <;> decide +kernel))]
  | draw x e => unfold Stm.lf Stm.two; rw [if_neg (no (by rcases hs with rfl | rfl <;> decide +kernel))]
  | lot x o e => unfold Stm.lf Stm.two; rw [if_neg (no (by rcases hs with rfl | rfl <;> decide +kernel))]
  | ask x o e => unfold Stm.lf Stm.two; rw [if_neg (no (by rcases hs with rfl | rfl <;> decide +kernel))]
  | bad => unfold Stm.lf Stm.two; rw [if_neg (no (by rcases hs with rfl | rfl <;> decide +kernel))]
end Gm
set_option Elab.async false
set_option linter.all false
set_option maxRecDepth 100000
set_option maxHeartbeats 4000000
/-! Looks at lots of a name; what they are spelled as. -/
namespace Gm
open PySem L2
open PyData (strOk)
mutual
def Stm.lk (n : Str) : Stm → List Stm
  | .ite _ a b => a.lk n ++ b.lk n
  | .after a => a.lk n
  | .lot l o e => if o = n then [.lot l o e] else []
  | .set _ _ => []
  | .lt _ _ => []
  | .draw _ _ => []
  | .put _ _ _ => []
  | .ask _ _ _ => []
  | .bad => []
def Blk.lk (n : Str) : Blk → List Stm
  | .nil => []
  | .cons s r => s.lk n ++ r.lk n
end
theorem Blk.lk_l (n : Str) : ∀ b : Blk, b.lk n = b.l.flatMap (Stm.lk n)
  | .nil => by unfold Blk.lk Blk.l; rfl
  | .cons s r => by unfold Blk.lk Blk.l; rw [Blk.lk_l n r, List.flatMap_cons]
mutual
theorem Stm.lk_len (n : Str) : ∀ s : Stm, (s.lk n).length ≤ s.tot
  | .ite e a b => by
    have h1 := Blk.lk_len n a
    have h2 := Blk.lk_len n b
    unfold Stm.lk Stm.tot
    rw [List.length_append]
    omega
  | .after a => by have h1 := Blk.lk_len n a; unfold Stm.lk Stm.tot; omega
  | .lot l o e => by unfold Stm.lk Stm.tot; split <;> simp
  | .set _ _ => by unfold Stm.lk; exact Nat.zero_le _
  | .lt _ _ => by unfold Stm.lk; exact Nat.zero_le _
  | .draw _ _ => by unfold Stm.lk; exact Nat.zero_le _
  | .put _ _ _ => by unfold Stm.lk; exact Nat.zero_le _
  | .ask _ _ _ => by unfold Stm.lk; exact Nat.zero_le _
  | .bad => by unfold Stm.lk; exact Nat.zero_le _
theorem Blk.lk_len (n : Str) : ∀ b : Blk, (b.lk n).length ≤ b.tot
  | .nil => by unfold Blk.lk; exact Nat.zero_le _
  | .cons s r => by
    have h1 := Stm.lk_len n s
    have h2 := Blk.lk_len n r
    unfold Blk.lk Blk.tot
    rw [List.length_append]
    omega
end
theorem lk_take (n : Str) (b : Blk) (i : Nat) : ((b.l.take i).flatMap (Stm.lk n)).length ≤ b.tot := by
  have := take_flat (f := Stm.lk n) b.l i
  rw [← Blk.lk_l] at this
  exact Nat.le_trans this (Blk.lk_len n b)
/-- what a look is spelled as -/
def spel (n : Str) (c : Int) (l : Str) (e : Ex) : Stm := .ite (.has n e) (Blk.of [.lt l (.cell n e)]) (Blk.of [.draw l c, .put n e (.loc l)])
mutual
def Stm.sw (n : Str) (c : Int) : Stm → Stm
  | .ite e a b => .ite e (a.sw n c) (b.sw n c)
  | .after a => .after (a.sw n c)
  | .lot l o e => if o = n then spel n c l e else .lot l o e
  | .set x e => .set x e
  | .lt x e => .lt x e
  | .draw x m => .draw x m
  | .put x e f => .put x e f
  | .ask x o e => .ask x o e
  | .bad => .bad
def Blk.sw (n : Str) (c : Int) : Blk → Blk
  | .nil => .nil
  | .cons s r => .cons (s.sw n c) (r.sw n c)
end
theorem Blk.sw_l (n : Str) (c : Int) : ∀ b : Blk, (b.sw n c).l = b.l.map (Stm.sw n c)
  | .nil => by unfold Blk.sw Blk.l; rfl
  | .cons s r => by unfold Blk.sw Blk.l; rw [Blk.sw_l n c r, List.map_cons]
end Gm
set_option Elab.async false
set_option linter.all false
set_option maxRecDepth 100000
set_option maxHeartbeats 4000000
/-! Blocks in which each statement, inner ones first, becomes other statements. -/
namespace Gm
open PySem L2
open PyData (strOk)
mutual
def Stm.cs (g : Stm → List Stm) : Stm → Stm
  | .ite e a b => .ite e (a.cb g) (b.cb g)
  | .after a => .after (a.cb g)
  | .set x e => .set x e
  | .lt x e => .lt x e
  | .draw l n => .draw l n
  | .put t e f => .put t e f
  | .lot l o e => .lot l o e
  | .ask l o e => .ask l o e
  | .bad => .bad
def Blk.cb (g : Stm → List Stm) : Blk → Blk
  | .nil => .nil
  | .cons s r => Blk.of (g (s.cs g) ++ (r.cb g).l)
end
theorem Blk.cb_l (g : Stm → List Stm) : ∀ b : Blk, (b.cb g).l = b.l.flatMap fun s => g (s.cs g)
  | .nil => by unfold Blk.cb Blk.l; rfl
  | .cons s r => by
    unfold Blk.cb
    rw [Blk.l_of, Blk.cb_l g r]
    show _ = (s :: r.l).flatMap _
    rw [List.flatMap_cons]
theorem flat_le {α β : Type} {f : α → List β} {m : Nat} (h : ∀ x, (f x).length ≤ m) : ∀ l : List α, (l.flatMap f).length ≤ m * l.length
  | [] => Nat.zero_le _
  | x :: l => by
    have h1 := h x
    have h2 := flat_le h l
    rw [List.flatMap_cons, List.length_append, List.length_cons, Nat.mul_succ]
    omega
def Pr.cb (g : Stm → List Stm) (p : Pr) : Pr := { p with block := p.block.cb g }
def Ga.cb (g : Stm → List Stm) (G : Ga) : Ga := { G with procs := G.procs.map (Pr.cb g) }
theorem l_tot : ∀ b : Blk, b.l.length ≤ b.tot
  | .nil => Nat.zero_le _
  | .cons s r => by
    have h := l_tot r
    have h1 : 1 ≤ s.tot := by cases s <;> (unfold Stm.tot; omega)
    unfold Blk.l Blk.tot
    rw [List.length_cons]
    omega
/-! what is erased -/
def Stm.er (p : Str × Str) (s : Stm) : List Stm := if p ∈ s.wr then [] else [s]
def lotN (s : Stm) : Prop := ∀ l o e, s = .lot l o e → nmB o = true
theorem stF.lotN {k d : Nat} {s : Stm} (h : stF k d s) : lotN s := by
  rintro l o e rfl
  unfold stF at h
  exact h.2.1
theorem lotN_cs {k d : Nat} {s : Stm} (g : Stm → List Stm) (h : stF k d s) : lotN (s.cs g) := by
  intro l o e h2
  cases s <;> unfold Stm.cs at h2 <;> first | (cases h2; unfold stF at h; exact h.2.1) | cases h2
end Gm
set_option Elab.async false
set_option linter.all false
set_option maxRecDepth 100000
set_option maxHeartbeats 4000000
/-! Games without the statements within an after. -/
namespace Gm
open PySem L2
/-- without the statements within an after -/
def Stm.wi : Stm → Stm
  | .after _ => .after .nil
  | s => s
def gU (s : Stm) : List Stm := [s.wi]
def Ga.ub (G : Ga) : Ga := G.cb gU
theorem cb_gU (s : Stm) (r : Blk) : (Blk.cons s r).cb gU = .cons (s.cs gU).wi (r.cb gU) := by
  rw [Blk.cb]
  show Blk.of ((s.cs gU).wi :: (r.cb gU).l) = _
  rw [Blk.of, Blk.of_l]
theorem ub_len : ∀ b : Blk, (b.cb gU).len = b.len
  | .nil => by unfold Blk.cb; rfl
  | .cons s r => by rw [cb_gU]; unfold Blk.len; rw [ub_len r]
mutual
theorem Stm.ub_fit {k : Nat} : ∀ {d : Nat} {s : Stm}, stF k d s → stF k d (s.cs gU).wi
  | 0, .ite _ _ _, h => by unfold stF at h; exact h.elim
  | d + 1, .ite e a b, h => by
    unfold stF at h
    unfold Stm.cs
    show stF k (d + 1) (.ite e (a.cb gU) (b.cb gU))
    unfold stF
    rw [ub_len, ub_len]
    exact ⟨h.1, Blk.ub_fit h.2.1, Blk.ub_fit h.2.2.1, h.2.2.2⟩
  | 0, .after _, h => by unfold stF at h; exact h.elim
  | d + 1, .after a, h => by
    unfold Stm.cs
    show stF k (d + 1) (.after .nil)
    unfold stF blF
    exact ⟨trivial, by unfold Blk.len; omega⟩
  | d, .set _ _, h => by unfold Stm.cs; exact h
  | d, .lt _ _, h => by unfold Stm.cs; exact h
  | d, .draw _ _, h => by unfold Stm.cs; exact h
  | d, .put _ _ _, h => by unfold Stm.cs; exact h
  | d, .lot _ _ _, h => by unfold Stm.cs; exact h
  | d, .ask _ _ _, h => by unfold Stm.cs; exact h
  | d, .bad, h => by unfold Stm.cs; exact h
theorem Blk.ub_fit {k : Nat} : ∀ {d : Nat} {b : Blk}, blF k d b → blF k d (b.cb gU)
  | d, .nil, _ => by unfold Blk.cb blF; trivial
  | d, .cons s r, h => by
    unfold blF at h
    rw [cb_gU]
    unfold blF
    exact ⟨Stm.ub_fit h.1, Blk.ub_fit h.2⟩
end
theorem Ga.ub_fit {k d : Nat} {G : Ga} (h : GaF k d G) : GaF k d G.ub := ⟨h.vars, h.tabs, h.lots, fun p hp => by
  obtain ⟨q, hq, rfl⟩ := List.mem_map.mp (show p ∈ G.procs.map (Pr.cb gU) from hp)
  have P := h.procs q hq
  exact ⟨P.name, P.locs, Blk.ub_fit P.block, P.res⟩⟩
end Gm
set_option Elab.async false
set_option linter.all false
set_option maxRecDepth 100000
set_option maxHeartbeats 4000000
/-! Games with another name in the place of one. -/
namespace Gm
open PySem L2
structure Rnm where
  k : Str
  o : Str
  n : Str
def Rnm.at_ (r : Rnm) (k x : Str) : Str := if k = r.k ∧ x = r.o then r.n else x
def Ex.nm (r : Rnm) : Ex → Ex
  | .num n => .num n
  | .loc x => .loc (r.at_ "local" x)
  | .var x => .var (r.at_ "variable" x)
  | .has t e => .has (r.at_ "table" t) (e.nm r)
  | .cell t e => .cell (r.at_ "table" t) (e.nm r)
  | .op o a b => .op o (a.nm r) (b.nm r)
mutual
def Stm.nm (r : Rnm) : Stm → Stm
  | .set x e => .set (r.at_ "variable" x) (e.nm r)
  | .lt l e => .lt (r.at_ "local" l) (e.nm r)
  | .draw l n => .draw (r.at_ "local" l) n
  | .put t e f => .put (r.at_ "table" t) (e.nm r) (f.nm r)
  | .lot l o e => .lot (r.at_ "local" l) (r.at_ "lots" o) (e.nm r)
  | .ask l p e => .ask l p (e.nm r)
  | .ite e a b => .ite (e.nm r) (a.nm r) (b.nm r)
  | .bad => .bad
  | .after a => .after (a.nm r)
def Blk.nm (r : Rnm) : Blk → Blk
  | .nil => .nil
  | .cons s t => .cons (s.nm r) (t.nm r)
end
theorem at_nm {r : Rnm} (hn : nmB r.n = true) {k x : Str} (h : nmB x = true) : nmB (r.at_ k x) = true := by
  unfold Rnm.at_
  split
  · exact hn
  · exact h
theorem Ex.nm_fit {r : Rnm} (hn : nmB r.n = true) : ∀ {k : Nat} {e : Ex}, exF k e → exF k (e.nm r)
  | 0, _, h => h.elim
  | k + 1, .num n, h => h
  | k + 1, .loc n, h => at_nm hn h
  | k + 1, .var n, h => at_nm hn h
  | k + 1, .has t e, h => ⟨at_nm hn h.1, Ex.nm_fit hn h.2⟩
  | k + 1, .cell t e, h => ⟨at_nm hn h.1, Ex.nm_fit hn h.2⟩
  | k + 1, .op o a b, h => ⟨h.1, Ex.nm_fit hn h.2.1, Ex.nm_fit hn h.2.2⟩
theorem nm_len' (r : Rnm) : ∀ b : Blk, (b.nm r).len = b.len
  | .nil => by unfold Blk.nm; rfl
  | .cons s t => by unfold Blk.nm Blk.len; rw [nm_len' r t]
mutual
theorem Stm.nm_fit {r : Rnm} (hn : nmB r.n = true) {k : Nat} : ∀ {d : Nat} {s : Stm}, stF k d s → stF k d (s.nm r)
  | 0, .ite _ _ _, h => by unfold stF at h; exact h.elim
  | d + 1, .ite e a b, h => by
    unfold stF at h
    unfold Stm.nm stF
    rw [nm_len', nm_len']
    exact ⟨Ex.nm_fit hn h.1, Blk.nm_fit hn h.2.1, Blk.nm_fit hn h.2.2.1, h.2.2.2⟩
  | 0, .after _, h => by unfold stF at h; exact h.elim
  | d + 1, .after a, h => by
    unfold stF at h
    unfold Stm.nm stF
    rw [nm_len']
    exact ⟨Blk.nm_fit hn h.1, h.2⟩
  | d, .set y e, h => by unfold stF at h; unfold Stm.nm stF; exact ⟨at_nm hn h.1, Ex.nm_fit hn h.2⟩
  | d, .lt y e, h => by unfold stF at h; unfold Stm.nm stF; exact ⟨at_nm hn h.1, Ex.nm_fit hn h.2⟩
  | d, .draw y e, h => by unfold stF at h; unfold Stm.nm stF; exact ⟨at_nm hn h.1, h.2⟩
  | d, .put y e f, h => by unfold stF at h; unfold Stm.nm stF; exact ⟨at_nm hn h.1, Ex.nm_fit hn h.2.1, Ex.nm_fit hn h.2.2⟩
  | d, .lot y o e, h => by unfold stF at h; unfold Stm.nm stF; exact ⟨at_nm hn h.1, at_nm hn h.2.1, Ex.nm_fit hn h.2.2⟩
  | d, .ask y o e, h => by unfold stF at h; unfold Stm.nm stF; exact ⟨h.1, h.2.1, Ex.nm_fit hn h.2.2⟩
  | d, .bad, h => by unfold Stm.nm; exact h
theorem Blk.nm_fit {r : Rnm} (hn : nmB r.n = true) {k : Nat} : ∀ {d : Nat} {b : Blk}, blF k d b → blF k d (b.nm r)
  | d, .nil, _ => by unfold Blk.nm blF; trivial
  | d, .cons s t, h => by
    unfold blF at h
    unfold Blk.nm blF
    exact ⟨Stm.nm_fit hn h.1, Blk.nm_fit hn h.2⟩
end
mutual
theorem Stm.nm_tot (r : Rnm) : ∀ s : Stm, (s.nm r).tot = s.tot
  | .ite e a b => by unfold Stm.nm Stm.tot; rw [Blk.nm_tot r a, Blk.nm_tot r b]
  | .after a => by unfold Stm.nm Stm.tot; rw [Blk.nm_tot r a]
  | .set y e => by unfold Stm.nm Stm.tot; rfl
  | .lt y e => by unfold Stm.nm Stm.tot; rfl
  | .draw y e => by unfold Stm.nm Stm.tot; rfl
  | .put y e f => by unfold Stm.nm Stm.tot; rfl
  | .lot y o e => by unfold Stm.nm Stm.tot; rfl
  | .ask y o e => by unfold Stm.nm Stm.tot; rfl
  | .bad => by unfold Stm.nm Stm.tot; rfl
theorem Blk.nm_tot (r : Rnm) : ∀ b : Blk, (b.nm r).tot = b.tot
  | .nil => by unfold Blk.nm; rfl
  | .cons s t => by unfold Blk.nm Blk.tot; rw [Stm.nm_tot r s, Blk.nm_tot r t]
end
/-! ### a statement by its parts -/
inductive Pt where
  | e (x : Ex) | b (x : Blk) | s (x : Str) | i (n : Int)
def Pt.d : Pt → PyData
  | .e x => x.d
  | .b x => x.d
  | .s x => .str x
  | .i n => .int n
def Pt.nm (r : Rnm) : Pt → Pt
  | .e x => .e (x.nm r)
  | .b x => .b (x.nm r)
  | .s x => .s x
  | .i n => .i n
def Stm.pt : Stm → List Pt
  | .set x e => [.s x, .e e]
  | .lt l e => [.s l, .e e]
  | .draw l n => [.s l, .i n]
  | .put t e f => [.s t, .e e, .e f]
  | .lot l o e => [.s l, .s o, .e e]
  | .ask l p e => [.s l, .s p, .e e]
  | .ite e a b => [.e e, .b a, .b b]
  | .bad => []
  | .after a => [.b a]
theorem pt_d (s : Stm) : s.d = .tuple (.str s.kind :: s.pt.map Pt.d) := by
  cases s <;> (unfold Stm.d; rfl)
theorem Pt.nol : ∀ p : Pt, nol p.d = true
  | .e x => Ex.nol x
  | .b x => Blk.nol x
  | .s x => rfl
  | .i n => rfl
theorem nolAll_pt : ∀ ps : List Pt, nolAll (ps.map Pt.d) = true
  | [] => rfl
  | p :: ps => by show (Gm.nol p.d && nolAll (ps.map Pt.d)) = true; rw [nolAll_pt ps, Pt.nol]; rfl
/-- when a part is a block -/
theorem pt_blk {s : Stm} {i : Nat} {p : Pt} (h : s.pt[i]? = some p) : (∃ x, p = .b x) ↔ (s.kind = "if" ∧ 0 < i) ∨ s.kind = "after" := by
  have a1 : ("set" : Str) ≠ "if" ∧ ("set" : Str) ≠ "after" := by decide +kernel
  have a2 : ("let" : Str) ≠ "if" ∧ ("let" : Str) ≠ "after" := by decide +kernel
  have a3 : ("draw" : Str) ≠ "if" ∧ ("draw" : Str) ≠ "after" := by decide +kernel
  have a4 : ("put" : Str) ≠ "if" ∧ ("put" : Str) ≠ "after" := by decide +kernel
  have a5 : ("lot" : Str) ≠ "if" ∧ ("lot" : Str) ≠ "after" := by decide +kernel
  have a6 : ("ask" : Str) ≠ "if" ∧ ("ask" : Str) ≠ "after" := by decide +kernel
  have a7 : ("if" : Str) ≠ "after" := by decide +kernel
  have no : ∀ {k : Str}, k ≠ "if" ∧ k ≠ "after" → ¬ ((k = "if" ∧ 0 < i) ∨ k = "after") := fun hk hh => hh.elim (fun z => hk.1 z.1) hk.2
  cases s with
  | ite e a b =>
    match i, h with
    | 0, h => cases h; exact ⟨fun ⟨_, z⟩ => (nomatch z), fun z => z.elim (fun z => absurd z.2 (by decide)) fun z => absurd z a7⟩
    | 1, h => cases h; exact ⟨fun _ => .inl ⟨rfl, by decide⟩, fun _ => ⟨_, rfl⟩⟩
    | 2, h => cases h; exact ⟨fun _ => .inl ⟨rfl, by decide⟩, fun _ => ⟨_, rfl⟩⟩
  | after a =>
    match i, h with
    | 0, h => cases h; exact ⟨fun _ => .inr rfl, fun _ => ⟨_, rfl⟩⟩
  | bad => simp [Stm.pt] at h
  | set x e =>
    match i, h with
    | 0, h => cases h; exact ⟨fun ⟨_, z⟩ => (nomatch z), fun z => absurd z (no a1)⟩
    | 1, h => cases h; exact ⟨fun ⟨_, z⟩ => (nomatch z), fun z => absurd z (no a1)⟩
  | lt x e =>
    match i, h with
    | 0, h => cases h; exact ⟨fun ⟨_, z⟩ => (nomatch z), fun z => absurd z (no a2)⟩
    | 1, h => cases h; exact ⟨fun ⟨_, z⟩ => (nomatch z), fun z => absurd z (no a2)⟩
  | draw x e =>
    match i, h with
    | 0, h => cases h; exact ⟨fun ⟨_, z⟩ => (nomatch z), fun z => absurd z (no a3)⟩
    | 1, h => cases h; exact ⟨fun ⟨_, z⟩ => (nomatch z), fun z => absurd z (no a3)⟩
  | put x e f =>
    match i, h with
    | 0, h => cases h; exact ⟨fun ⟨_, z⟩ => (nomatch z), fun z => absurd z (no a4)⟩
    | 1, h => cases h; exact ⟨fun ⟨_, z⟩ => (nomatch z), fun z => absurd z (no a4)⟩
    | 2, h => cases h; exact ⟨fun ⟨_, z⟩ => (nomatch z), fun z => absurd z (no a4)⟩
  | lot x e f =>
    match i, h with
    | 0, h => cases h; exact ⟨fun ⟨_, z⟩ => (nomatch z), fun z => absurd z (no a5)⟩
    | 1, h => cases h; exact ⟨fun ⟨_, z⟩ => (nomatch z), fun z => absurd z (no a5)⟩
    | 2, h => cases h; exact ⟨fun ⟨_, z⟩ => (nomatch z), fun z => absurd z (no a5)⟩
  | ask x e f =>
    match i, h with
    | 0, h => cases h; exact ⟨fun ⟨_, z⟩ => (nomatch z), fun z => absurd z (no a6)⟩
    | 1, h => cases h; exact ⟨fun ⟨_, z⟩ => (nomatch z), fun z => absurd z (no a6)⟩
    | 2, h => cases h; exact ⟨fun ⟨_, z⟩ => (nomatch z), fun z => absurd z (no a6)⟩
/-- the first part, renamed where it is the name that is written -/
def firstOf (k : Str) : Str := if k = "set" then "variable" else if k = "put" then "table" else "local"
def wrK (k : Str) : Prop := k = "set" ∨ k = "let" ∨ k = "draw" ∨ k = "put" ∨ k = "lot"
/-! ### procedures and games -/
def Pr.nm (r : Rnm) (p : Pr) : Pr := { p with block := p.block.nm r, res := p.res.nm r }
def Pr.nmL (r : Rnm) (p : Pr) : Pr := { p.nm r with locs := p.locs.map fun x => if x = r.o then r.n else x }
def rowNm (r : Rnm) (t : Str × Int × Int) : Str × Int × Int := (if t.1 = r.o then r.n else t.1, t.2)
def rowsNm (r : Rnm) (ts : List (Str × Int × Int)) : List (Str × Int × Int) := ts.map (rowNm r)
def Ga.nm (r : Rnm) (G : Ga) : Ga :=
  if r.k = "local" then { G with procs := G.procs.map (Pr.nmL r) }
  else if r.k = "table" then { G with tabs := rowsNm r G.tabs, procs := G.procs.map (Pr.nm r) }
  else if r.k = "lots" then { G with lots := rowsNm r G.lots, procs := G.procs.map (Pr.nm r) }
  else { G with vars := rowsNm r G.vars, procs := G.procs.map (Pr.nm r) }
/-! ### within -/
def Blk.wn : Blk → Blk
  | .nil => .nil
  | .cons (.after a) r => .cons (.after (a.app (.cons .bad .nil))) r.wn
  | .cons s r => .cons s r.wn
/-- the game that is drawn -/
structure GdU (G : Ga) : Prop where
  vn : ∀ t ∈ G.vars, nmB t.1 = true ∧ t.1 ≠ ("zz" : Str)
  tn : ∀ t ∈ G.tabs, nmB t.1 = true ∧ t.1 ≠ ("zz" : Str)
  on : ∀ t ∈ G.lots, nmB t.1 = true ∧ t.1 ≠ ("zz" : Str)
  vr : ∀ t ∈ G.vars, (1 ≤ t.2.1 ∧ t.2.1 ≤ 65535) ∧ 0 ≤ t.2.2 ∧ t.2.2 < t.2.1
  tr : ∀ t ∈ G.tabs, (1 ≤ t.2.1 ∧ t.2.1 ≤ 64) ∧ 1 ≤ t.2.2 ∧ t.2.2 ≤ 64
  or : ∀ t ∈ G.lots, (1 ≤ t.2.1 ∧ t.2.1 ≤ 64) ∧ 1 ≤ t.2.2 ∧ t.2.2 ≤ 64
  len : G.vars.length ≤ 3 ∧ G.tabs.length ≤ 2 ∧ G.lots.length ≤ 2
  pn : (∃ p, G.procs = [p]) ∨ ∃ p q, G.procs = [p, q] ∧ p.name ≠ q.name
  pr : ∀ p ∈ G.procs, nmB p.name = true ∧ p.name ≠ ("zz" : Str) ∧ (1 ≤ p.size ∧ p.size ≤ 64) ∧ (1 ≤ p.ans ∧ p.ans ≤ 64) ∧ ((∀ x ∈ p.locs, nmB x = true ∧ x ≠ ("zz" : Str)) ∧ ("a" : Str) ∈ p.locs ∧ p.locs.length ≤ 6) ∧ blF 6 6 p.block ∧ p.block.tot ≤ 30 ∧ exF 5 p.res
/-! ### unlike -/
def Ga.rw (G : Ga) : Nat → List (Str × Int × Int)
  | 0 => G.vars
  | 1 => G.tabs
  | _ => G.lots
def Ga.setR (G : Ga) : Nat → List (Str × Int × Int) → Ga
  | 0, r => { G with vars := r }
  | 1, r => { G with tabs := r }
  | _, r => { G with lots := r }
def Ga.setP (G : Ga) (ps : List Pr) : Ga := { G with procs := ps }
def UnL (G F : Ga) : Prop := F = G ∨ F.ub ≠ G.ub
structure Sz (F : Ga) : Prop where
  f : GaF 6 6 F
  n : F.procs.length ≤ 1000
  t : ∀ p ∈ F.procs, p.block.tot ≤ 700
structure Go (G F : Ga) : Prop where
  u : UnL G F
  z : Sz F
theorem zz_nm : nmB ("zz" : Str) = true := by decide +kernel
theorem GdU.rn {G : Ga} (h : GdU G) {k : Nat} : ∀ t ∈ G.rw k, nmB t.1 = true ∧ t.1 ≠ ("zz" : Str) := by
  match k with
  | 0 => exact h.vn
  | 1 => exact h.tn
  | k + 2 => exact h.on
theorem GdU.rl {G : Ga} (h : GdU G) {k : Nat} : (G.rw k).length ≤ 3 := by
  have := h.len
  match k with
  | 0 => exact this.1
  | 1 => show G.tabs.length ≤ 3; omega
  | k + 2 => show G.lots.length ≤ 3; omega
theorem GdU.sz {G : Ga} (h : GdU G) : Sz G :=
  ⟨⟨fun t m => (h.vn t m).1, fun t m => (h.tn t m).1, fun t m => (h.on t m).1, fun p m => by
      obtain ⟨a, _, _, _, l, b, _, r⟩ := h.pr p m
      exact ⟨a, fun x hx => (l.1 x hx).1, b, r.mono (by decide)⟩⟩,
    by rcases h.pn with ⟨p, e⟩ | ⟨p, q, e, _⟩ <;> (rw [e]; show _ ≤ 1000; simp),
    fun p m => by have := (h.pr p m).2.2.2.2.2.2.1; omega⟩
theorem Sz.setR {G : Ga} (h : Sz G) (k : Nat) {r : List (Str × Int × Int)} (hr : ∀ t ∈ r, nmB t.1 = true) : Sz (G.setR k r) := by
  match k with
  | 0 => exact ⟨{ h.f with vars := hr }, h.n, h.t⟩
  | 1 => exact ⟨{ h.f with tabs := hr }, h.n, h.t⟩
  | k + 2 => exact ⟨{ h.f with lots := hr }, h.n, h.t⟩
theorem setR_self (G : Ga) (k : Nat) : G.setR k (G.rw k) = G := by
  match k with
  | 0 => rfl
  | 1 => rfl
  | k + 2 => rfl
theorem un_rows {G : Ga} (k : Nat) (r : List (Str × Int × Int)) : UnL G (G.setR k r) := by
  by_cases h : r = G.rw k
  · subst h
    exact .inl (setR_self G k)
  · refine .inr fun e => h ?_
    match k, e with
    | 0, e => exact congrArg Ga.vars e
    | 1, e => exact congrArg Ga.tabs e
    | k + 2, e => exact congrArg Ga.lots e
theorem go_rows {G : Ga} (h : GdU G) (k : Nat) {r : List (Str × Int × Int)} (hr : ∀ t ∈ r, nmB t.1 = true) : Go G (G.setR k r) := ⟨un_rows k r, h.sz.setR k hr⟩
/-! names -/
def kdOf : Nat → Str
  | 0 => "variable"
  | 1 => "table"
  | _ => "lots"
theorem Pr.nm_ok {r : Rnm} (hn : nmB r.n = true) {p : Pr} (h : PrF_ 6 6 p) : PrF_ 6 6 (p.nm r) := ⟨h.name, h.locs, Blk.nm_fit hn h.block, Ex.nm_fit hn h.res⟩
theorem Pr.nmL_ok {r : Rnm} (hn : nmB r.n = true) {p : Pr} (h : PrF_ 6 6 p) : PrF_ 6 6 (p.nmL r) := ⟨h.name, fun x hx => by
  obtain ⟨y, hy, rfl⟩ := List.mem_map.mp (show x ∈ p.locs.map _ from hx)
  split
  · exact hn
  · exact h.locs y hy, Blk.nm_fit hn h.block, Ex.nm_fit hn h.res⟩
theorem rowsNm_ok {r : Rnm} (hn : nmB r.n = true) {ts : List (Str × Int × Int)} (h : ∀ t ∈ ts, nmB t.1 = true) : ∀ t ∈ rowsNm r ts, nmB t.1 = true := fun t ht => by
  obtain ⟨y, hy, rfl⟩ := List.mem_map.mp (show t ∈ ts.map _ from ht)
  show nmB (if y.1 = r.o then r.n else y.1) = true
  split
  · exact hn
  · exact h y hy
theorem Sz.nm {r : Rnm} (hn : nmB r.n = true) {G : Ga} (h : Sz G) : Sz (G.nm r) := by
  have P : ∀ p ∈ G.procs.map (Pr.nm r), PrF_ 6 6 p := fun p hp => by
    obtain ⟨q, hq, rfl⟩ := List.mem_map.mp hp
    exact Pr.nm_ok hn (h.f.procs q hq)
  have T : ∀ p ∈ G.procs.map (Pr.nm r), p.block.tot ≤ 700 := fun p hp => by
    obtain ⟨q, hq, rfl⟩ := List.mem_map.mp hp
    show (q.block.nm r).tot ≤ 700
    rw [Blk.nm_tot]
    exact h.t q hq
  have N : (G.procs.map (Pr.nm r)).length ≤ 1000 := by rw [List.length_map]; exact h.n
  unfold Ga.nm
  split
  · refine ⟨{ h.f with procs := fun p hp => ?_ }, by show (G.procs.map _).length ≤ _; rw [List.length_map]; exact h.n, fun p hp => ?_⟩
    · obtain ⟨q, hq, rfl⟩ := List.mem_map.mp (show p ∈ G.procs.map _ from hp)
      exact Pr.nmL_ok hn (h.f.procs q hq)
    · obtain ⟨q, hq, rfl⟩ := List.mem_map.mp (show p ∈ G.procs.map _ from hp)
      show (q.block.nm r).tot ≤ 700
      rw [Blk.nm_tot]
      exact h.t q hq
  split
  · exact ⟨⟨h.f.vars, rowsNm_ok hn h.f.tabs, h.f.lots, P⟩, N, T⟩
  split
  · exact ⟨⟨h.f.vars, h.f.tabs, rowsNm_ok hn h.f.lots, P⟩, N, T⟩
  · exact ⟨⟨rowsNm_ok hn h.f.vars, h.f.tabs, h.f.lots, P⟩, N, T⟩
theorem rowsNm_ne {r : Rnm} {ts : List (Str × Int × Int)} {t : Str × Int × Int} (ht : t ∈ ts) (ho : t.1 = r.o) (hz : ∀ t ∈ ts, t.1 ≠ r.n) : rowsNm r ts ≠ ts := fun e => by
  have m : rowNm r t ∈ rowsNm r ts := List.mem_map.mpr ⟨t, ht, rfl⟩
  rw [e] at m
  refine hz _ m ?_
  show (if t.1 = r.o then r.n else t.1) = r.n
  rw [if_pos ho]
theorem un_name {G : Ga} (h : GdU G) {k : Nat} (hk : k < 3) {t : Str × Int × Int} (ht : t ∈ G.rw k) : Go G (G.nm ⟨kdOf k, t.1, "zz"⟩) := by
  refine ⟨.inr fun e => ?_, h.sz.nm zz_nm⟩
  have n1 : ("table" : Str) ≠ "local" := by decide +kernel
  have n2 : ("lots" : Str) ≠ "local" := by decide +kernel
  have n3 : ("lots" : Str) ≠ "table" := by decide +kernel
  have n4 : ("variable" : Str) ≠ "local" := by decide +kernel
  have n5 : ("variable" : Str) ≠ "table" := by decide +kernel
  have n6 : ("variable" : Str) ≠ "lots" := by decide +kernel
  have ne := rowsNm_ne (r := ⟨kdOf k, t.1, "zz"⟩) ht rfl fun t ht => (h.rn t ht).2
  match k, hk, ht, e, ne with
  | 0, _, ht, e, ne =>
    refine ne ?_
    have e := congrArg Ga.vars e
    unfold Ga.nm at e
    rw [if_neg (by exact n4), if_neg (by exact n5), if_neg (by exact n6)] at e
    exact e
  | 1, _, ht, e, ne =>
    refine ne ?_
    have e := congrArg Ga.tabs e
    unfold Ga.nm at e
    rw [if_neg (by exact n1), if_pos (by exact rfl)] at e
    exact e
  | 2, _, ht, e, ne =>
    refine ne ?_
    have e := congrArg Ga.lots e
    unfold Ga.nm at e
    rw [if_neg (by exact n2), if_neg (by exact n3), if_pos (by exact rfl)] at e
    exact e
theorem GdU.hd {G : Ga} (h : GdU G) : ∃ p r, G.procs = p :: r := by
  rcases h.pn with ⟨p, e⟩ | ⟨p, q, e, _⟩
  · exact ⟨_, _, e⟩
  · exact ⟨_, _, e⟩
theorem un_local {G : Ga} (h : GdU G) : Go G (G.nm ⟨"local", "a", "zz"⟩) := by
  refine ⟨.inr fun e => ?_, h.sz.nm zz_nm⟩
  obtain ⟨p, r, ep⟩ := h.hd
  have hp := h.pr p (by rw [ep]; exact List.mem_cons_self ..)
  have e := congrArg Ga.procs e
  unfold Ga.nm at e
  rw [if_pos (by exact rfl)] at e
  have e : (G.procs.map (Pr.nmL ⟨"local", "a", "zz"⟩)).map (Pr.cb gU) = G.procs.map (Pr.cb gU) := e
  rw [ep] at e
  injection e with e _
  have e := congrArg Pr.locs e
  have e : (Pr.nmL ⟨"local", "a", "zz"⟩ p).locs = p.locs := e
  have m : ("zz" : Str) ∈ (Pr.nmL ⟨"local", "a", "zz"⟩ p).locs := List.mem_map.mpr ⟨"a", hp.2.2.2.2.1.2.1, by rw [if_pos (by exact rfl)]⟩
  rw [e] at m
  exact (hp.2.2.2.2.1.1 _ m).2 rfl
/-! procedures -/
theorem Sz.setP {G : Ga} (h : GdU G) {ps : List Pr} (n : ps.length ≤ 1000) (hp : ∀ p ∈ ps, PrF_ 6 6 p ∧ p.block.tot ≤ 700) : Sz (G.setP ps) :=
  ⟨⟨h.sz.f.vars, h.sz.f.tabs, h.sz.f.lots, fun p m => (hp p m).1⟩, n, fun p m => (hp p m).2⟩
theorem GdU.prF {G : Ga} (h : GdU G) {p : Pr} (m : p ∈ G.procs) : PrF_ 6 6 p ∧ p.block.tot ≤ 700 := ⟨h.sz.f.procs p m, h.sz.t p m⟩
theorem GdU.pl {G : Ga} (h : GdU G) : G.procs.length ≤ 2 := by
  rcases h.pn with ⟨p, e⟩ | ⟨p, q, e, _⟩ <;> (rw [e]; simp)
theorem go_rev {G : Ga} (h : GdU G) : Go G (G.setP G.procs.reverse) := by
  refine ⟨?_, Sz.setP h (by rw [List.length_reverse]; have := h.pl; omega) fun p m => h.prF (List.mem_reverse.mp m)⟩
  rcases h.pn with ⟨p, e⟩ | ⟨p, q, e, n⟩
  · refine .inl ?_
    rw [e]
    show G.setP [p] = G
    rw [← e]
    rfl
  · refine .inr fun z => n ?_
    have z := congrArg Ga.procs z
    have z : G.procs.reverse.map (Pr.cb gU) = G.procs.map (Pr.cb gU) := z
    rw [e] at z
    have z : [q.cb gU, p.cb gU] = [p.cb gU, q.cb gU] := z
    injection z with z _
    have z := congrArg Pr.name z
    exact z.symm
theorem go_tail {G : Ga} (h : GdU G) : Go G (G.setP (G.procs.drop 1)) := by
  refine ⟨.inr fun z => ?_, Sz.setP h (by rw [List.length_drop]; have := h.pl; omega) fun p m => h.prF (List.mem_of_mem_drop m)⟩
  obtain ⟨p, r, ep⟩ := h.hd
  have z := congrArg Ga.procs z
  have z : (G.procs.drop 1).map (Pr.cb gU) = G.procs.map (Pr.cb gU) := z
  have z := congrArg List.length z
  rw [ep] at z
  simp at z
theorem go_proc {G : Ga} (h : GdU G) {k : Nat} {p p' : Pr} (hk : G.procs[k]? = some p) (b : p'.block = p.block ∨ p'.block.len ≠ p.block.len) (f : PrF_ 6 6 p') (t : p'.block.tot ≤ 700) : Go G (G.setP (G.procs.take k ++ [p'] ++ G.procs.drop (k + 1))) := by
  have es : G.procs = G.procs.take k ++ [p] ++ G.procs.drop (k + 1) := by
    obtain ⟨h1, h2⟩ := List.getElem?_eq_some_iff.mp hk
    rw [List.append_assoc]
    conv => lhs; rw [← List.take_append_drop k G.procs, List.drop_eq_getElem_cons h1, h2]
    rfl
  refine ⟨?_, Sz.setP h ?_ fun q m => ?_⟩
  · by_cases e : p' = p
    · subst e
      refine .inl ?_
      rw [← es]
      rfl
    · refine .inr fun z => e ?_
      have z := congrArg Ga.procs z
      have z : (G.procs.take k ++ [p'] ++ G.procs.drop (k + 1)).map (Pr.cb gU) = G.procs.map (Pr.cb gU) := z
      have z := z.trans (congrArg (List.map (Pr.cb gU)) es)
      simp only [List.map_append, List.append_assoc, List.map_cons, List.map_nil, List.cons_append, List.nil_append] at z
      have z := List.append_cancel_left z
      injection z with z _
      have z1 := congrArg Pr.name z
      have z2 := congrArg Pr.size z
      have z3 := congrArg Pr.ans z
      have z4 := congrArg Pr.locs z
      have z5 := congrArg (fun q : Pr => q.block.len) z
      have z6 := congrArg Pr.res z
      have z1 : p'.name = p.name := z1
      have z2 : p'.size = p.size := z2
      have z3 : p'.ans = p.ans := z3
      have z4 : p'.locs = p.locs := z4
      have z5 : (p'.block.cb gU).len = (p.block.cb gU).len := z5
      have z6 : p'.res = p.res := z6
      rw [ub_len, ub_len] at z5
      rcases b with b | b
      · cases p
        cases p'
        dsimp only at *
        subst z1 z2 z3 z4 b z6
        rfl
      · exact absurd z5 b
  · have := h.pl
    rw [List.length_append, List.length_append, List.length_take, List.length_drop]
    show _ + 1 + _ ≤ _
    omega
  · rcases List.mem_append.mp m with m | m
    · rcases List.mem_append.mp m with m | m
      · exact h.prF (List.mem_of_mem_take m)
      · rw [List.mem_singleton.mp m]
        exact ⟨f, t⟩
    · exact h.prF (List.mem_of_mem_drop m)
/-! within -/
theorem wn_tot : ∀ b : Blk, b.wn.tot ≤ 2 * b.tot
  | .nil => by unfold Blk.wn; rw [tot_nil]; omega
  | .cons s r => by
    have ih := wn_tot r
    cases s with
    | after a =>
      unfold Blk.wn
      rw [tot_cons, tot_cons, tot_aft, tot_aft]
      have : (a.app (.cons .bad .nil)).tot = a.tot + 1 := by
        have app_tot : ∀ a b : Blk, (a.app b).tot = a.tot + b.tot := fun a b => by
          induction a using Blk.rec (motive_1 := fun _ => True) with
          | nil => rw [Blk.app, tot_nil]; omega
          | cons s r _ ih => rw [Blk.app, tot_cons, tot_cons, ih]; omega
          | _ => trivial
        rw [app_tot, tot_cons, tot_nil]
        show a.tot + ((1 : Nat) + 0) = _
        omega
      omega
    | _ => unfold Blk.wn; rw [tot_cons, tot_cons]; omega
theorem wn_ub : ∀ b : Blk, b.wn.cb gU = b.cb gU
  | .nil => by unfold Blk.wn; rfl
  | .cons s r => by
    have ih := wn_ub r
    cases s with
    | after a => unfold Blk.wn; rw [cb_gU, cb_gU, ih, Stm.cs, Stm.cs]; rfl
    | _ => unfold Blk.wn; rw [cb_gU, cb_gU, ih]
theorem wn_fit : ∀ {d : Nat} {b : Blk}, blF 6 d b → b.tot ≤ 30 → blF 6 d b.wn
  | d, .nil, _, _ => by unfold Blk.wn blF; trivial
  | d, .cons s r, h, t => by
    unfold blF at h
    rw [tot_cons] at t
    have ih := wn_fit h.2 (by omega)
    cases s with
    | after a =>
      unfold Blk.wn blF
      refine ⟨?_, ih⟩
      rw [tot_aft] at t
      have l := blk_len_tot a
      rw [Blk.len_l] at l
      match d, h with
      | 0, h => have := h.1; unfold stF at this; exact this.elim
      | d + 1, h =>
        have h1 := h.1
        unfold stF at h1 ⊢
        rw [Blk.len_app]
        refine ⟨?_, by show a.len + (0 + 1) ≤ _; omega⟩
        have app_fit : ∀ {a b : Blk}, blF 6 d a → blF 6 d b → blF 6 d (a.app b) := fun {a b} ha hb => by
          induction a using Blk.rec (motive_1 := fun _ => True) with
          | nil => rw [Blk.app]; exact hb
          | cons s r _ ih => rw [Blk.app]; unfold blF at ha ⊢; exact ⟨ha.1, ih ha.2⟩
          | _ => trivial
        exact app_fit h1.1 (by unfold blF; exact ⟨by cases d <;> (unfold stF; trivial), by unfold blF; trivial⟩)
    | _ => unfold Blk.wn blF; exact ⟨h.1, ih⟩
def Pr.wn (p : Pr) : Pr := { p with block := p.block.wn }
def Ga.wn (G : Ga) : Ga := G.setP (G.procs.map Pr.wn)
theorem GdU.wn {G : Ga} (h : GdU G) : G.wn.ub = G.ub ∧ Sz G.wn := by
  refine ⟨Ga.ext rfl rfl rfl ?_, Sz.setP h (by rw [List.length_map]; have := h.pl; omega) fun p m => ?_⟩
  · show (G.procs.map Pr.wn).map (Pr.cb gU) = G.procs.map (Pr.cb gU)
    rw [List.map_map]
    refine List.map_congr_left fun p _ => ?_
    show Pr.cb gU p.wn = Pr.cb gU p
    unfold Pr.cb Pr.wn
    dsimp only
    rw [wn_ub]
  · obtain ⟨q, hq, rfl⟩ := List.mem_map.mp m
    have f := (h.prF hq).1
    have t := (h.pr q hq).2.2.2.2.2.2.1
    have t2 := wn_tot q.block
    exact ⟨⟨f.name, f.locs, wn_fit f.block t, f.res⟩, by show q.block.wn.tot ≤ 700; omega⟩
theorem loc_or_var {k : Nat} {e : Ex} (hf : exF k e) (h : e.kind = "local" ∨ e.kind = "variable") : (∃ x, e = .loc x) ∨ ∃ x, e = .var x := by
  match k, e, hf with
  | 0, _, hf => exact hf.elim
  | k + 1, .num n, _ => exact absurd (show ("number" : Str) = "local" ∨ ("number" : Str) = "variable" from h) (by decide +kernel)
  | k + 1, .op o a b, hf => exact absurd hf.1 (by rcases h with h | h <;> (rw [show o = _ from h]; decide +kernel))
  | k + 1, .loc x, _ => exact .inl ⟨x, rfl⟩
  | k + 1, .var x, _ => exact .inr ⟨x, rfl⟩
  | k + 1, .has _ _, _ => exact absurd (show ("has" : Str) = "local" ∨ ("has" : Str) = "variable" from h) (by decide +kernel)
  | k + 1, .cell _ _, _ => exact absurd (show ("cell" : Str) = "local" ∨ ("cell" : Str) = "variable" from h) (by decide +kernel)
theorem look_is {k : Nat} {e : Ex} (hf : exF k e) (h : e.kind = "has" ∨ e.kind = "cell") : (∃ t x, e = .has t x) ∨ ∃ t x, e = .cell t x := by
  match k, e, hf with
  | 0, _, hf => exact hf.elim
  | k + 1, .num n, _ => exact absurd (show ("number" : Str) = "has" ∨ ("number" : Str) = "cell" from h) (by decide +kernel)
  | k + 1, .op o a b, hf => exact absurd hf.1 (by rcases h with h | h <;> (rw [show o = _ from h]; decide +kernel))
  | k + 1, .loc x, _ => exact absurd (show ("local" : Str) = "has" ∨ ("local" : Str) = "cell" from h) (by decide +kernel)
  | k + 1, .var x, _ => exact absurd (show ("variable" : Str) = "has" ∨ ("variable" : Str) = "cell" from h) (by decide +kernel)
  | k + 1, .has t x, _ => exact .inl ⟨t, x, rfl⟩
  | k + 1, .cell t x, _ => exact .inr ⟨t, x, rfl⟩
theorem op_is {e : Ex} (n : e.kind ≠ "number") (h : ¬ (e.kind = "local" ∨ e.kind = "variable")) (h2 : ¬ (e.kind = "has" ∨ e.kind = "cell")) : ∃ o a b, e = .op o a b := by
  cases e with
  | op o a b => exact ⟨o, a, b, rfl⟩
  | num x => exact absurd rfl n
  | loc x => exact absurd (.inl rfl) h
  | var x => exact absurd (.inr rfl) h
  | has t x => exact absurd (.inl rfl) h2
  | cell t x => exact absurd (.inr rfl) h2
/-! a statement, renamed -/
def five : List Str := ["set", "let", "draw", "put", "lot"]
def C1 (r : Rnm) (s : Stm) : Prop := s.kind ∈ five ∧ r.k = firstOf s.kind ∧ ∃ p, s.pt = .s r.o :: p
def C2 (r : Rnm) (s : Stm) : Prop := s.kind = "lot" ∧ r.k = "lots" ∧ ∃ x p, s.pt = x :: .s r.o :: p
def es0 (r : Rnm) (s : Stm) : List PyData := .str s.kind :: (s.pt.map (Pt.nm r)).map Pt.d
open Classical in
noncomputable def es1 (r : Rnm) (s : Stm) : List PyData := if C1 r s then (es0 r s).set 1 (.str r.n) else es0 r s
open Classical in
noncomputable def es2 (r : Rnm) (s : Stm) : List PyData := if C2 r s then (es1 r s).set 2 (.str r.n) else es1 r s
theorem five_pt {s : Stm} (h : s.kind ∈ five) : ∃ x p, s.pt = .s x :: p := by
  cases s with
  | set x e => exact ⟨_, _, rfl⟩
  | lt x e => exact ⟨_, _, rfl⟩
  | draw x e => exact ⟨_, _, rfl⟩
  | put x e f => exact ⟨_, _, rfl⟩
  | lot x o e => exact ⟨_, _, rfl⟩
  | ask x o e => exact absurd (show ("ask" : Str) ∈ five from h) (by decide +kernel)
  | ite e a b => exact absurd (show ("if" : Str) ∈ five from h) (by decide +kernel)
  | bad => exact absurd (show ("bad" : Str) ∈ five from h) (by decide +kernel)
  | after a => exact absurd (show ("after" : Str) ∈ five from h) (by decide +kernel)
theorem lot_pt {s : Stm} (h : s.kind = "lot") : ∃ x o e, s = .lot x o e := by
  cases s with
  | lot x o e => exact ⟨_, _, _, rfl⟩
  | set x e => exact absurd (show ("set" : Str) = "lot" from h) (by decide +kernel)
  | lt x e => exact absurd (show ("let" : Str) = "lot" from h) (by decide +kernel)
  | draw x e => exact absurd (show ("draw" : Str) = "lot" from h) (by decide +kernel)
  | put x e f => exact absurd (show ("put" : Str) = "lot" from h) (by decide +kernel)
  | ask x o e => exact absurd (show ("ask" : Str) = "lot" from h) (by decide +kernel)
  | ite e a b => exact absurd (show ("if" : Str) = "lot" from h) (by decide +kernel)
  | bad => exact absurd (show ("bad" : Str) = "lot" from h) (by decide +kernel)
  | after a => exact absurd (show ("after" : Str) = "lot" from h) (by decide +kernel)
theorem no2 {r : Rnm} {s : Stm} (h : s.kind ≠ "lot") : es2 r s = es1 r s := by
  unfold es2
  rw [if_neg (fun z => h z.1)]
theorem no1 {r : Rnm} {s : Stm} (h : s.kind ∉ five) : es1 r s = es0 r s := by
  unfold es1
  rw [if_neg (fun z => h z.1)]
theorem one1 {r : Rnm} {s : Stm} {k x : Str} {p : List Pt} (h : s.kind ∈ five) (hk : firstOf s.kind = k) (hp : s.pt = .s x :: p) : es1 r s = .str s.kind :: .str (r.at_ k x) :: (p.map (Pt.nm r)).map Pt.d := by
  unfold es1 es0 Rnm.at_
  rw [hp]
  by_cases c : k = r.k ∧ x = r.o
  · rw [if_pos c, if_pos ⟨h, by rw [hk]; exact c.1.symm, p, by rw [hp, c.2]⟩]
    rfl
  · rw [if_neg c, if_neg]
    · rfl
    · rintro ⟨_, z, q, e⟩
      rw [hp] at e
      injection e with e _
      injection e with e
      exact c ⟨by rw [← hk]; exact z.symm, e⟩
theorem es_fin (r : Rnm) (s : Stm) : (s.nm r).d = .tuple (es2 r s) := by
  have f1 : firstOf "set" = "variable" := by decide +kernel
  have f2 : firstOf "let" = "local" := by decide +kernel
  have f3 : firstOf "draw" = "local" := by decide +kernel
  have f4 : firstOf "put" = "table" := by decide +kernel
  have f5 : firstOf "lot" = "local" := by decide +kernel
  cases s with
  | set x e => rw [no2 (by show ("set" : Str) ≠ "lot"; decide +kernel), one1 (s := .set x e) (k := "variable") (by show ("set" : Str) ∈ five; decide +kernel) f1 rfl]; unfold Stm.nm Stm.d; rfl
  | lt x e => rw [no2 (by show ("let" : Str) ≠ "lot"; decide +kernel), one1 (s := .lt x e) (k := "local") (by show ("let" : Str) ∈ five; decide +kernel) f2 rfl]; unfold Stm.nm Stm.d; rfl
  | draw x e => rw [no2 (by show ("draw" : Str) ≠ "lot"; decide +kernel), one1 (s := .draw x e) (k := "local") (by show ("draw" : Str) ∈ five; decide +kernel) f3 rfl]; unfold Stm.nm Stm.d; rfl
  | put x e f => rw [no2 (by show ("put" : Str) ≠ "lot"; decide +kernel), one1 (s := .put x e f) (k := "table") (by show ("put" : Str) ∈ five; decide +kernel) f4 rfl]; unfold Stm.nm Stm.d; rfl
  | ask x o e => rw [no2 (by show ("ask" : Str) ≠ "lot"; decide +kernel), no1 (by show ("ask" : Str) ∉ five; decide +kernel)]; unfold Stm.nm Stm.d; rfl
  | ite e a b => rw [no2 (by show ("if" : Str) ≠ "lot"; decide +kernel), no1 (by show ("if" : Str) ∉ five; decide +kernel)]; unfold Stm.nm Stm.d; rfl
  | bad => rw [no2 (by show ("bad" : Str) ≠ "lot"; decide +kernel), no1 (by show ("bad" : Str) ∉ five; decide +kernel)]; unfold Stm.nm Stm.d; rfl
  | after a => rw [no2 (by show ("after" : Str) ≠ "lot"; decide +kernel), no1 (by show ("after" : Str) ∉ five; decide +kernel)]; unfold Stm.nm Stm.d; rfl
  | lot x o e =>
    have e1 := one1 (r := r) (s := .lot x o e) (k := "local") (by show ("lot" : Str) ∈ five; decide +kernel) f5 rfl
    unfold es2
    rw [e1]
    by_cases c : ("lots" : Str) = r.k ∧ o = r.o
    · rw [if_pos ⟨rfl, c.1.symm, _, _, by rw [← c.2]; rfl⟩]
      unfold Stm.nm Stm.d
      rw [show r.at_ "lots" o = r.n from by unfold Rnm.at_; rw [if_pos c]]
      rfl
    · rw [if_neg]
      · unfold Stm.nm Stm.d
        rw [show r.at_ "lots" o = o from by unfold Rnm.at_; rw [if_neg c]]
        rfl
      · rintro ⟨_, z, y, p, w⟩
        have w : [Pt.s x, .s o, .e e] = y :: .s r.o :: p := w
        injection w with _ w
        injection w with w _
        injection w with w
        exact c ⟨z.symm, w⟩
theorem nolAll_mem : ∀ {ds : List PyData}, nolAll ds = true → ∀ (i : Nat) (e : PyData), nol e = true → nolAll (ds.set i e) = true
  | [], _, _, _, _ => rfl
  | d :: ds, h, 0, e, he => by
    have h : (nol d && nolAll ds) = true := h
    rw [Bool.and_eq_true] at h
    show (nol e && nolAll ds) = true
    rw [he, h.2]; rfl
  | d :: ds, h, i + 1, e, he => by
    have h : (nol d && nolAll ds) = true := h
    rw [Bool.and_eq_true] at h
    show (nol d && nolAll (ds.set i e)) = true
    rw [h.1, nolAll_mem h.2 i e he]; rfl
theorem dps_set {K : PySem.W.Frag} {H : Hp} : ∀ {vs : List V} {ds : List PyData}, DpAll K H vs ds → ∀ (i : Nat) {v : V} {e : PyData}, Dp K H v e → DpAll K H (vs.set i v) (ds.set i e)
  | _, _, .nil, i, _, _, _ => by rw [List.set_nil, List.set_nil]; exact .nil
  | _, _, .cons _ t, 0, _, _, h => .cons h t
  | _, _, .cons h' t, i + 1, _, _, h => .cons h' (dps_set t i h)
theorem nm_l (r : Rnm) : ∀ b : Blk, (b.nm r).l = b.l.map fun s => s.nm r
  | .nil => by unfold Blk.nm Blk.l; rfl
  | .cons s t => by unfold Blk.nm Blk.l; rw [nm_l r t]; rfl
end Gm
set_option Elab.async false
set_option linter.all false
set_option maxRecDepth 100000
set_option maxHeartbeats 2000000
/-! Rules of my own: != of own instances by an own __eq__; list(range(..)). -/
namespace Mine
open PySem PySem.Spec PyProof.Rows L2
section
variable {M : Model} {prog : Program} {w : World} {A : Around} {E : Value → Shared → Prop} {s : Shared} {K : PySem.W.Frag} {x C L f : Addr} {h₀ : Heap} {m : Str → Option Value} {ox : Obj} {od : Option Obj} {b tb : Value}
theorem ifBound_objNe {args : List Value} {Q : Option Value → Shared → Prop} (X : K.In s.heap) (I : PySem.W.InstAt s.heap x ox C od) (hs : PySem.W.findIn K (.ref C) "__ne__" = some (some (.builtin "object.__ne__")))
    (h : wpAny M A (call (.builtin "object.__ne__") (.ref x :: args)) (fun v => Q (some v)) E s) : wpAny M A (callSpecialIfBound? (.ref x) "__ne__" args) Q E s := by
  simp only [callSpecialIfBound?, bindSpecialIfBound?]
  refine wpAny_holding (wpAny_bind (wpAny_bind (wpAny_bind (I.type.here ((PySem.W.looks_findIn X hs).here ?_)))))
  refine wpAny_bind (wpAny_askSetting (wpAny_ite ?_))
  have fin : wpAny M A (call (.builtin "object.__ne__") ([.ref x] ++ args) >>= fun v => pure (some v)) Q E s := wpAny_bind (wpAny_mono h (fun v s' h' => wpAny_pure h') fun _ _ h' => h')
  split
  · exact wpAny_bind (wpAny_of_eq (F.cmp_object.ne.bind _) (wpAny_pure (by exact fin)))
  · exact wpAny_tryCatch (wpAny_bind (wpAny_of_eq (F.cmp_object.ne.bind _) (wpAny_pure (by exact fin))))
theorem entry_ne {Q : Fin → Shared → Prop} (X : K.In s.heap) (I : PySem.W.InstAt s.heap x ox C od) (hs : PySem.W.findIn K (.ref C) "__eq__" = some (some (.ref f))) (hf : PySem.W.isFn K (.ref f) = true) (hu : A.units < cLine)
    (hcall : wpAny M A (call (.ref f) [.ref x, b]) (fun v s' => ∃ c, v = .bool c ∧ Q (.done (.ret (.bool (!c)))) s') E s) :
    wpAny M A (Builtin.«object.__ne__» ⟨[.ref x, b], []⟩) Q E s := by
  unfold Builtin.«object.__ne__»
  repeat (first
    | with_reducible refine wpAny_cRoomFor hu ?_
    | (refine wpAny_bind (m := callSpecialIfBound? (.ref x) (Str.ofString "__eq__") [b])
        (PySem.W.ifBound_K X I hs hf (wpAny_mono hcall (fun r s' hr => by
          obtain ⟨b, rfl, hq⟩ := hr
          repeat (first | exact hq | exact wpAny_pure hq | exact wpAny_truthy_bool hq | (refine wpAny_bind (m := truthy (.bool _)) (wpAny_truthy_bool ?_)) | wp_step)) fun _ _ e => e)))
    | wp_step)
theorem call_objNe {Q : Value → Shared → Prop} (X : K.In s.heap) (I : PySem.W.InstAt s.heap x ox C od) (hm : PySem.W.mroIn K C (.type "object") = some true) (hs : PySem.W.findIn K (.ref C) "__eq__" = some (some (.ref f))) (hf : PySem.W.isFn K (.ref f) = true) (hu : A.in1.units < cLine)
    (hcall : wpAny (model prog w) A.in1 (call (.ref f) [.ref x, b]) (fun v s' => ∃ c, v = .bool c ∧ Q (.bool (!c)) s') E s) :
    wpAny (model prog w) A (call (.builtin "object.__ne__") [.ref x, b]) Q E s :=
  wpAny_call (codeAny_call_builtin F.cmp_object.ne.plain F.cmpEntry_ne (PySem.W.check_slot F.cmpKind_ne F.cmpSplit_ne (I.type.andThen (PySem.W.looks_mroIn X hm)) (F.cmpArgs_ne _ _) (entry_ne X I hs hf hu hcall)))
theorem ne_K {Q : Value → Shared → Prop} (hu : A.in1.units < cLine) (hu0 : A.units < cLine) (F : Fr h₀ L s.heap m) (X₀ : K.In h₀) (I : PySem.W.InstAt s.heap x ox C od) (hb : PySem.W.Looks (model prog w) s.heap (typeOf b) tb) (hn : PySem.W.notFirst K C tb = true)
    (hm : PySem.W.mroIn K C (.type "object") = some true) (hne : PySem.W.findIn K (.ref C) "__ne__" = some (some (.builtin "object.__ne__")))
    (hs : PySem.W.findIn K (.ref C) "__eq__" = some (some (.ref f))) (hf : PySem.W.isFn K (.ref f) = true)
    (h : wpAny (model prog w) A.in1 (call (.ref f) [.ref x, b]) (fun v s' => ∃ c, v = .bool c ∧ Q (.bool (!c)) s') E s) : wpAny (model prog w) A (richCompare .NotEq (.ref x) b) Q E s := by
  have X := X₀.keeps F.keep
  have one : wpAny (model prog w) A (tryCompare (.ref x) "__ne__" b) (fun r s' => ∃ v, r = some v ∧ Q v s') E s := by
    unfold tryCompare
    refine wpAny_bind (ifBound_objNe X I hne (call_objNe X I hm hs hf hu (wpAny_mono h (fun v s' hv => ?_) fun _ _ e => e)))
    obtain ⟨c, rfl, q⟩ := hv
    exact ⟨c, rfl, wpAny_pure ⟨_, rfl, q⟩⟩
  unfold richCompare
  simp only [oneThing_ref]
  refine wpAny_holding (wpAny_bind (wpAny_cRoomFor hu0 ?_))
  refine wpAny_bind (I.type.here (wpAny_bind (hb.here ?_)))
  split
  · rename_i q
    have e : PySem.W.subIn K tb (.ref C) = some false := by
      rcases Bool.or_eq_true_iff.mp hn with e | e
      · rw [beq_iff_eq.mp e] at q; simp at q
      · exact beq_iff_eq.mp e
    refine wpAny_bind ((PySem.W.looks_subIn X e).here ?_)
    simp only [Bool.false_eq_true, if_false]
    refine wpAny_bind (wpAny_mono one (fun r s' z => ?_) fun _ _ e => e)
    obtain ⟨v, rfl, hq⟩ := z
    exact wpAny_pure hq
  · refine wpAny_bind (wpAny_pure ?_)
    simp only [Bool.false_eq_true, if_false]
    refine wpAny_bind (wpAny_mono one (fun r s' z => ?_) fun _ _ e => e)
    obtain ⟨v, rfl, hq⟩ := z
    exact wpAny_pure hq
end
section
variable {X : Cx} {CX : CXT} {C f : Addr} {fd : FuncData} {ps : List Str} {sp : Sp} {E : XK} {n : Nat}
/-- != of two instances of one class with an own __eq__ -/
def rOwnN (C : Addr) (sp : Sp) (E : XK) : R2 := fun x y H Q => ∃ a b dx dy fs gs, x = .ref a ∧ y = .ref b ∧ H a = some (.ins C dx fs) ∧ H b = some (.ins C dy gs) ∧ sp [.ref a, .ref b] H (fun v H' => ∃ c, v = .bl c ∧ Q (.bl (!c)) H') E
theorem op_ownNe (F : FnOk X.prog X.w X.K X.mg X.base CX n f fd ps sp) (hr : Room (n + 1) X.A) (hb : Binds X.K fd ps []) (hx : Passes CX X E)
    (hm : PySem.W.mroIn X.K C (.type "object") = some true) (hne : PySem.W.findIn X.K (.ref C) "__ne__" = some (some (.builtin "object.__ne__")))
    (hs : PySem.W.findIn X.K (.ref C) "__eq__" = some (some (.ref f))) (hf : PySem.W.isFn X.K (.ref f) = true) : OpR X (compareOp .NotEq) (rOwnN C sp E) := by
  intro pins s σ H x y v u Q I rx ry h
  obtain ⟨a, b, dx, dy, fs, gs, rfl, rfl, ha, hb', q⟩ := h
  cases rx
  cases ry
  obtain ⟨mA, J, _⟩ := ins_get I.hok ha
  obtain ⟨mB, J', _⟩ := ins_get I.hok hb'
  obtain ⟨od, J, _⟩ := J.look
  obtain ⟨od', J', _⟩ := J'.look
  obtain ⟨m, hF⟩ := I.fr
  show wpAny (model X.prog X.w) X.A (richCompare .NotEq _ _) (EP X pins σ Q) X.xe s
  have hr2 : Room n X.A.in1 := hr.in1
  refine ne_K (tb := .ref C) hr2.units0 hr.units0 hF I.ok.mod.kin J J'.type (by simp [PySem.W.notFirst]) hm hne hs hf ?_
  have e0 : Env0 X.prog X.w X.K X.mg X.base X.A.in1 X.stack s H := by
    have e := I.env0
    exact ⟨e.frames, e.mod, e.bs, e.bsz, e.funs, e.frf, e.hok, e.bare⟩
  have hl := F.len _ _ _ _ q
  have r2 : Vals [V.ref a, V.ref b] [Value.ref a, Value.ref b] := .cons rfl (.cons rfl .nil)
  refine wpAny_call (codeAny_mono (F.run _ X.stack s H ⟨[.ref a, .ref b], []⟩ [.ref a, .ref b] [.ref a, .ref b] _ E hr2 e0 (by
    have := hb s [.ref a, .ref b] I.kIn (by simpa using hl)
    simpa using this) r2 q) fun r s' hq => ?_)
  cases r with
  | error e => exact hx pins σ H s e s' I hq
  | ok fl =>
    cases fl with
    | ret w =>
      obtain ⟨z, H', I', rz, c, ez, q'⟩ := I.after hq
      subst ez
      exact ⟨c, rz, .bl (!c), H', I', rfl, q'⟩
    | next => exact False.elim hq
    | brk => exact False.elim hq
    | cont => exact False.elim hq
/-- range(n) -/
theorem cr_range1 : CallR X (.type "range") (fun vs H Q => ∃ j, vs = [V.int j] ∧ ∀ p, H p = none → Q (.ref p) (upd H p (.rng 0 j))) := by
  intro pins s σ H vs us Q I r h
  obtain ⟨j, rfl, q⟩ := h
  obtain ⟨u1, rfl, ri⟩ := vals1 r
  obtain ⟨t, rfl⟩ := ri
  refine call_range_1 ⟨.ref s.heap.objs.size, upd H s.heap.objs.size (.rng 0 j), I.laid (t' := s.toks + 2) (fun b o e => Heap.get?_push_of_some _ e) (Nat.le_refl _) ?_, rfl, q _ (I.hok.fresh (Nat.le_refl _))⟩
  exact ⟨_, _, _, Heap.get?_push_size _ rfl⟩
/-- list(range(n)) -/
def rListRng : List V → Hp → VK → Prop := fun vs H Q => ∃ (p : Addr) (n : Nat), vs = [V.ref p] ∧ H p = some (.rng 0 n) ∧ n ≤ 1000 ∧ ∀ l, H l = none → Q (.ref l) (upd H l (.lst ((List.range n).map fun i => V.int (i : Nat))))
theorem vals_from {us : List Value} : ∀ (k n : Nat), us.length = n → (∀ j v, us[j]? = some v → ∃ t, v = Value.int (0 + ((k + j : Nat) : Int) * 1) t) → Vals ((List.range' k n).map fun i => V.int (i : Nat)) us := by
  induction us with
  | nil => intro k n hn _; cases hn; exact .nil
  | cons u us ih =>
    intro k n hn h
    cases hn
    rw [List.length_cons, List.range'_succ, List.map_cons]
    refine .cons ?_ (ih (k + 1) us.length rfl fun j v e => ?_)
    · obtain ⟨t, e⟩ := h 0 u rfl
      rw [e]
      exact ⟨t, by simp⟩
    · obtain ⟨t, e⟩ := h (j + 1) v (by simpa using e)
      exact ⟨t, by rw [e]; congr 2; omega⟩
theorem call_list_rng (hc : X.calm = true) : CallR X (.type "list") rListRng := by
  intro pins s σ H vs us Q I r h
  obtain ⟨p, n, rfl, hp, hn, q⟩ := h
  obtain ⟨u1, rfl, ri⟩ := vals1 r
  cases ri
  obtain ⟨t, u, v, e⟩ := (show ObjOk X.prog X.w H s.heap p (.rng 0 n) from I.hok p _ hp)
  have hs : Builtin.Range.rangeSize 0 (n : Int) 1 = n := by
    unfold Builtin.Range.rangeSize
    simp
    try omega
  have hsm : Builtin.Range.small 0 (n : Int) 1 = true := by
    unfold Builtin.Range.small Builtin.Range.rangeFitsLong
    rw [hs]
    simp
    try omega
  refine call_list_range (n := n) (I.ok.hd hc) e hsm hs (by omega) fun h' tk acc c' kp e' hi => ?_
  have hv := vals_from (us := acc.toList) 0 n (by simpa using hi.1) (fun j v z => by
    have := hi.2 j v (by simpa using z)
    simpa using this)
  rw [← List.range_eq_range'] at hv
  refine ⟨.ref s.heap.objs.size, upd H s.heap.objs.size (.lst ((List.range n).map fun i => V.int (i : Nat))), I.laid (t' := tk) kp (Nat.le_refl _) ⟨by rw [List.length_map, List.length_range]; exact Nat.le_trans hn (by decide), acc.toList, c', hv, by rw [Array.toArray_toList]; exact e'⟩, rfl, q _ (I.hok.fresh (Nat.le_refl _))⟩
end
end Mine
set_option Elab.async false
/-! Mathematics of fractions in lowest terms. -/
namespace Mine
/-- the fraction n / d in lowest terms (d positive) -/
def red (n d : Int) : Int × Int := (n / ((Nat.gcd n.natAbs d.natAbs : Nat) : Int), d / ((Nat.gcd n.natAbs d.natAbs : Nat) : Int))
theorem gcd_pos {n d : Int} (h : 0 < d) : 0 < Nat.gcd n.natAbs d.natAbs := Nat.gcd_pos_of_pos_right _ (by omega)
/-- n = g * p, d = g * q with p, q coprime -/
theorem red_spec {n d : Int} (h : 0 < d) : ∃ g : Nat, 0 < g ∧ n = g * (red n d).1 ∧ d = g * (red n d).2 ∧ Nat.gcd (red n d).1.natAbs (red n d).2.natAbs = 1 := by
  have gp := gcd_pos (n := n) h
  refine ⟨Nat.gcd n.natAbs d.natAbs, gp, ?_, ?_, ?_⟩
  · have hd : ((Nat.gcd n.natAbs d.natAbs : Nat) : Int) ∣ n := Int.ofNat_dvd_left.mpr (Nat.gcd_dvd_left _ _)
    exact (Int.mul_ediv_cancel' hd).symm
  · have hd : ((Nat.gcd n.natAbs d.natAbs : Nat) : Int) ∣ d := Int.ofNat_dvd_left.mpr (Nat.gcd_dvd_right _ _)
    exact (Int.mul_ediv_cancel' hd).symm
  · have hn : ((Nat.gcd n.natAbs d.natAbs : Nat) : Int) ∣ n := Int.ofNat_dvd_left.mpr (Nat.gcd_dvd_left _ _)
    have hd : ((Nat.gcd n.natAbs d.natAbs : Nat) : Int) ∣ d := Int.ofNat_dvd_left.mpr (Nat.gcd_dvd_right _ _)
    show Nat.gcd (n / ((Nat.gcd n.natAbs d.natAbs : Nat) : Int)).natAbs (d / ((Nat.gcd n.natAbs d.natAbs : Nat) : Int)).natAbs = 1
    rw [Int.natAbs_ediv_of_dvd hn, Int.natAbs_ediv_of_dvd hd, Int.natAbs_natCast]
    rw [Nat.gcd_div (Nat.gcd_dvd_left _ _) (Nat.gcd_dvd_right _ _)]
    exact Nat.div_self gp
theorem red_pos {n d : Int} (h : 0 < d) : 0 < (red n d).2 := by
  obtain ⟨g, g0, _, e2, _⟩ := red_spec (n := n) h
  have hg : (0 : Int) < g := by omega
  have : 0 < (g : Int) * (red n d).2 := by rw [← e2]; exact h
  exact Int.pos_of_mul_pos_right this (by omega)
theorem red_le {n d : Int} (h : 0 < d) : (red n d).1.natAbs ≤ n.natAbs ∧ (red n d).2.natAbs ≤ d.natAbs := by
  obtain ⟨g, g0, e1, e2, _⟩ := red_spec (n := n) h
  constructor
  · have e := congrArg Int.natAbs e1
    rw [Int.natAbs_mul, Int.natAbs_natCast] at e
    rw [e]
    exact Nat.le_mul_of_pos_left _ g0
  · have e := congrArg Int.natAbs e2
    rw [Int.natAbs_mul, Int.natAbs_natCast] at e
    exact Nat.le_trans (Nat.le_mul_of_pos_left _ g0) (Nat.le_of_eq e.symm)
theorem low_unique {p q p' q' : Int} (hq : 0 < q) (hq' : 0 < q') (c : Nat.gcd p.natAbs q.natAbs = 1) (c' : Nat.gcd p'.natAbs q'.natAbs = 1) (e : p * q' = p' * q) : p = p' ∧ q = q' := by
  have en : p.natAbs * q'.natAbs = p'.natAbs * q.natAbs := by
    have := congrArg Int.natAbs e
    rwa [Int.natAbs_mul, Int.natAbs_mul] at this
  have d1 : q.natAbs ∣ q'.natAbs := by
    have z : q.natAbs ∣ p.natAbs * q'.natAbs := by rw [en]; exact Nat.dvd_mul_left _ _
    exact Nat.Coprime.dvd_of_dvd_mul_left (Nat.Coprime.symm c) z
  have d2 : q'.natAbs ∣ q.natAbs := by
    have z : q'.natAbs ∣ p'.natAbs * q.natAbs := by rw [← en]; exact Nat.dvd_mul_left _ _
    exact Nat.Coprime.dvd_of_dvd_mul_left (Nat.Coprime.symm c') z
  have eq : q.natAbs = q'.natAbs := Nat.dvd_antisymm d1 d2
  have eq' : q = q' := by omega
  subst eq'
  exact ⟨Int.eq_of_mul_eq_mul_right (by omega) e, rfl⟩
theorem red_eq {n d n' d' : Int} (h : 0 < d) (h' : 0 < d') (e : n * d' = n' * d) : red n d = red n' d' := by
  obtain ⟨g, g0, e1, e2, c⟩ := red_spec (n := n) h
  obtain ⟨g', g0', e1', e2', c'⟩ := red_spec (n := n') h'
  have q0 := red_pos (n := n) h
  have q0' := red_pos (n := n') h'
  generalize red n d = r at *
  generalize red n' d' = r' at *
  obtain ⟨p, q⟩ := r
  obtain ⟨p', q'⟩ := r'
  dsimp only at *
  have hg : (0 : Int) < g := by omega
  have hg' : (0 : Int) < g' := by omega
  have hgg : (0 : Int) < g * g' := Int.mul_pos hg hg'
  have x : (g * g' : Int) * (p * q') = (g * g' : Int) * (p' * q) := by
    have y := e
    rw [e1, e2', e1', e2] at y
    have l : (g * p : Int) * (g' * q') = (g * g' : Int) * (p * q') := by ac_rfl
    have r : (g' * p' : Int) * (g * q) = (g * g' : Int) * (p' * q) := by ac_rfl
    rw [← l, ← r]
    exact y
  have z := Int.eq_of_mul_eq_mul_left (by omega) x
  obtain ⟨a, b⟩ := low_unique q0 q0' c c' z
  rw [a, b]
theorem red_of {n d : Int} (h : 0 < d) : (red n d).1 * d = n * (red n d).2 := by
  obtain ⟨g, g0, e1, e2, c⟩ := red_spec (n := n) h
  generalize red n d = r at *
  obtain ⟨p, q⟩ := r
  dsimp only at *
  rw [e1, e2]
  ac_rfl
/-- the two fractions' sum, difference, product from their lowest terms -/
theorem mul_swap4 (a b c d : Int) : a * b * (c * d) = a * c * (b * d) := by ac_rfl
theorem red_add {a b c d : Int} (hb : 0 < b) (hd : 0 < d) : red ((red a b).1 * (red c d).2 + (red c d).1 * (red a b).2) ((red a b).2 * (red c d).2) = red (a * d + c * b) (b * d) := by
  have h1 := red_of (n := a) hb
  have h2 := red_of (n := c) hd
  have p1 := red_pos (n := a) hb
  have p2 := red_pos (n := c) hd
  generalize red a b = r at *
  generalize red c d = r' at *
  obtain ⟨p, q⟩ := r
  obtain ⟨p', q'⟩ := r'
  dsimp only at *
  refine red_eq (Int.mul_pos p1 p2) (Int.mul_pos hb hd) ?_
  rw [Int.add_mul, Int.add_mul]
  have x1 : p * q' * (b * d) = a * d * (q * q') := by
    have : p * q' * (b * d) = (p * b) * (q' * d) := by ac_rfl
    rw [this, h1]
    ac_rfl
  have x2 : p' * q * (b * d) = c * b * (q * q') := by
    have : p' * q * (b * d) = (p' * d) * (q * b) := by ac_rfl
    rw [this, h2]
    ac_rfl
  rw [x1, x2]
theorem red_sub {a b c d : Int} (hb : 0 < b) (hd : 0 < d) : red ((red a b).1 * (red c d).2 - (red c d).1 * (red a b).2) ((red a b).2 * (red c d).2) = red (a * d - c * b) (b * d) := by
  have h1 := red_of (n := a) hb
  have h2 := red_of (n := c) hd
  have p1 := red_pos (n := a) hb
  have p2 := red_pos (n := c) hd
  generalize red a b = r at *
  generalize red c d = r' at *
  obtain ⟨p, q⟩ := r
  obtain ⟨p', q'⟩ := r'
  dsimp only at *
  refine red_eq (Int.mul_pos p1 p2) (Int.mul_pos hb hd) ?_
  rw [Int.sub_mul, Int.sub_mul]
  have x1 : p * q' * (b * d) = a * d * (q * q') := by
    have : p * q' * (b * d) = (p * b) * (q' * d) := by ac_rfl
    rw [this, h1]
    ac_rfl
  have x2 : p' * q * (b * d) = c * b * (q * q') := by
    have : p' * q * (b * d) = (p' * d) * (q * b) := by ac_rfl
    rw [this, h2]
    ac_rfl
  rw [x1, x2]
theorem red_mul {a b c d : Int} (hb : 0 < b) (hd : 0 < d) : red ((red a b).1 * (red c d).1) ((red a b).2 * (red c d).2) = red (a * c) (b * d) := by
  have h1 := red_of (n := a) hb
  have h2 := red_of (n := c) hd
  have p1 := red_pos (n := a) hb
  have p2 := red_pos (n := c) hd
  generalize red a b = r at *
  generalize red c d = r' at *
  obtain ⟨p, q⟩ := r
  obtain ⟨p', q'⟩ := r'
  dsimp only at *
  refine red_eq (Int.mul_pos p1 p2) (Int.mul_pos hb hd) ?_
  have : p * p' * (b * d) = (p * b) * (p' * d) := by ac_rfl
  rw [this, h1, h2]
  ac_rfl
theorem red_lt {a b c d : Int} (hb : 0 < b) (hd : 0 < d) : ((red a b).1 * (red c d).2 < (red c d).1 * (red a b).2) ↔ (a * d < c * b) := by
  obtain ⟨g, g0, e1, e2, _⟩ := red_spec (n := a) hb
  obtain ⟨g', g0', e1', e2', _⟩ := red_spec (n := c) hd
  generalize red a b = r at *
  generalize red c d = r' at *
  obtain ⟨p, q⟩ := r
  obtain ⟨p', q'⟩ := r'
  dsimp only at *
  have hgg : (0 : Int) < (g : Int) * g' := Int.mul_pos (by omega) (by omega)
  have l : a * d = (g * g' : Int) * (p * q') := by rw [e1, e2']; ac_rfl
  have r : c * b = (g * g' : Int) * (p' * q) := by rw [e1', e2]; ac_rfl
  rw [l, r]
  exact ⟨fun h => Int.mul_lt_mul_of_pos_left h hgg, fun h => Int.lt_of_mul_lt_mul_left h (Int.le_of_lt hgg)⟩
theorem red_eq_iff {a b c d : Int} (hb : 0 < b) (hd : 0 < d) : (red a b = red c d) ↔ (a * d = c * b) := by
  refine ⟨fun h => ?_, fun h => red_eq hb hd h⟩
  have h1 := red_of (n := a) hb
  have h2 := red_of (n := c) hd
  have p1 := red_pos (n := a) hb
  rw [← h] at h2
  generalize red a b = r at *
  obtain ⟨p, q⟩ := r
  dsimp only at *
  have x : q * (a * d) = q * (c * b) := by
    have y1 : q * (a * d) = (a * q) * d := by ac_rfl
    have y2 : q * (c * b) = (c * q) * b := by ac_rfl
    rw [y1, y2, ← h1, ← h2]
    ac_rfl
  exact Int.eq_of_mul_eq_mul_left (by omega) x
/-! ### Euclid's loop -/
/-- what holds ahead of turn i of the loop over (a, b), g the greatest common divisor of the start -/
def Euc (g P : Nat) (i : Nat) (a b : Int) : Prop := 0 ≤ a ∧ 0 ≤ b ∧ (0 < a ∨ 0 < b) ∧ Nat.gcd a.natAbs b.natAbs = g ∧ a.natAbs * b.natAbs * 2 ^ (i - 1) ≤ P ∧ (i = 0 ∨ b < a) ∧ a.natAbs ≤ P ∧ b.natAbs ≤ P
theorem euc_start {a b : Int} (ha : 0 ≤ a) (hb : 0 < b) {P : Nat} (h1 : a.natAbs * b.natAbs ≤ P) (h2 : a.natAbs ≤ P) (h3 : b.natAbs ≤ P) : Euc (Nat.gcd a.natAbs b.natAbs) P 0 a b :=
  ⟨ha, by omega, .inr hb, rfl, by simpa using h1, .inl rfl, h2, h3⟩
theorem euc_turn {g P i : Nat} {a b : Int} (h : Euc g P i a b) (hb : b ≠ 0) : Euc g P (i + 1) b (a % b) := by
  obtain ⟨a0, b0, _, hg, hp, hi, la, lb⟩ := h
  have bp : 0 < b := by omega
  have m0 := Int.emod_nonneg a (by omega : b ≠ 0)
  have m1 := Int.emod_lt_of_pos a bp
  obtain ⟨x, rfl⟩ := Int.eq_ofNat_of_zero_le a0
  obtain ⟨y, rfl⟩ := Int.eq_ofNat_of_zero_le b0
  have em : ((x : Int) % (y : Int)).natAbs = x % y := by rw [← Int.natCast_emod, Int.natAbs_natCast]
  rw [Int.natAbs_natCast, Int.natAbs_natCast] at hg hp
  rw [Int.natAbs_natCast] at la lb
  have yp : 0 < y := by omega
  have ml : x % y < y := Nat.mod_lt _ yp
  refine ⟨b0, m0, .inl bp, ?_, ?_, .inr m1, ?_, ?_⟩
  · rw [em, Int.natAbs_natCast, ← hg, Nat.gcd_comm x y, Nat.gcd_rec y x, Nat.gcd_comm]
  · rw [em, Int.natAbs_natCast]
    have hk : x % y ≤ x := Nat.mod_le _ _
    rcases hi with hi | hi
    · subst hi
      show y * (x % y) * 2 ^ 0 ≤ P
      have : y * (x % y) ≤ y * x := Nat.mul_le_mul_left _ hk
      rw [Nat.pow_zero, Nat.mul_one]
      refine Nat.le_trans this ?_
      rw [Nat.mul_comm]
      simpa using hp
    · have lt : y < x := by omega
      have half : 2 * (x % y) ≤ x := by
        have e := Nat.div_add_mod x y
        have d1 : 1 ≤ x / y := (Nat.one_le_div_iff yp).mpr (by omega)
        have : y ≤ y * (x / y) := Nat.le_mul_of_pos_right _ (by omega)
        omega
      cases i with
      | zero =>
        show y * (x % y) * 2 ^ 0 ≤ P
        have : y * (x % y) ≤ y * x := Nat.mul_le_mul_left _ hk
        rw [Nat.pow_zero, Nat.mul_one]
        refine Nat.le_trans this ?_
        rw [Nat.mul_comm]
        simpa using hp
      | succ j =>
        show y * (x % y) * 2 ^ (j + 1) ≤ P
        have e : y * (x % y) * 2 ^ (j + 1) = (y * (2 * (x % y))) * 2 ^ j := by rw [Nat.pow_succ]; ac_rfl
        rw [e]
        have q : x * y * 2 ^ j ≤ P := hp
        refine Nat.le_trans (Nat.mul_le_mul_right _ ?_) q
        rw [Nat.mul_comm x y]
        exact Nat.mul_le_mul_left _ half
  · rw [Int.natAbs_natCast]; exact lb
  · rw [em]; omega
theorem euc_end {g P i : Nat} {a : Int} (h : Euc g P i a 0) : a = (g : Int) ∧ 0 < a := by
  obtain ⟨a0, _, hz, hg, _⟩ := h
  rw [Int.natAbs_zero, Nat.gcd_zero_right] at hg
  omega
theorem euc_over {g P i : Nat} {a b : Int} (h : Euc g P (i + 1) a b) (hP : P < 2 ^ i) : b = 0 := by
  obtain ⟨a0, b0, hz, _, hp, hi, _⟩ := h
  rcases hi with hi | hi
  · omega
  by_cases q : b = 0
  · exact q
  · exfalso
    have h1 : 1 ≤ a.natAbs * b.natAbs := Nat.mul_pos (by omega) (by omega)
    have h2 : 2 ^ i ≤ a.natAbs * b.natAbs * 2 ^ i := Nat.le_mul_of_pos_left _ h1
    have h3 : a.natAbs * b.natAbs * 2 ^ (i + 1 - 1) ≤ P := hp
    rw [Nat.add_sub_cancel] at h3
    omega
end Mine
set_option Elab.async false
set_option linter.all false
/-! Fractions in lowest terms, as rational numbers. -/
namespace Mine
/-- the number n / d -/
def fr (n d : Int) : Rat := Rat.divInt n d
theorem fr_self (q : Rat) : fr q.num q.den = q := Rat.num_divInt_den q
theorem den_pos (q : Rat) : (0 : Int) < q.den := Int.ofNat_lt.mpr q.den_pos
theorem fr_eq {n d n' d' : Int} (h : 0 < d) (h' : 0 < d') : fr n d = fr n' d' ↔ n * d' = n' * d := Rat.divInt_eq_divInt_iff (by omega) (by omega)
theorem fr_cross {n d : Int} (h : 0 < d) : (fr n d).num * d = n * (fr n d).den := by
  have e := fr_self (fr n d)
  exact (fr_eq (den_pos _) h).mp e
theorem red_fr {n d : Int} (h : 0 < d) : red n d = ((fr n d).num, ((fr n d).den : Int)) := by
  obtain ⟨g, g0, e1, e2, c⟩ := red_spec (n := n) h
  have q0 := red_pos (n := n) h
  have x := red_of (n := n) h
  have y := fr_cross (n := n) h
  have cq : Nat.gcd (fr n d).num.natAbs ((fr n d).den : Int).natAbs = 1 := by
    rw [Int.natAbs_natCast]
    exact (fr n d).reduced
  have hg : (g : Int) ≠ 0 := by omega
  have z : (red n d).1 * ((fr n d).den : Int) = (fr n d).num * (red n d).2 := by
    generalize red n d = r at *
    generalize fr n d = f at *
    obtain ⟨p, q⟩ := r
    dsimp only at *
    have : (g : Int) * (p * f.den) = g * (f.num * q) := by
      calc (g : Int) * (p * f.den) = (g * p) * f.den := by ac_rfl
        _ = n * f.den := by rw [← e1]
        _ = f.num * d := y.symm
        _ = f.num * (g * q) := by rw [← e2]
        _ = g * (f.num * q) := by ac_rfl
    exact Int.eq_of_mul_eq_mul_left hg this
  obtain ⟨a, b⟩ := low_unique q0 (den_pos (fr n d)) c cq z
  exact Prod.ext a b
theorem red_num {n d : Int} (h : 0 < d) : (red n d).1 = (fr n d).num := by rw [red_fr h]
theorem red_den {n d : Int} (h : 0 < d) : (red n d).2 = ((fr n d).den : Int) := by rw [red_fr h]
theorem fr_add {n d n' d' : Int} (h : 0 < d) (h' : 0 < d') : fr (n * d' + n' * d) (d * d') = fr n d + fr n' d' := (Rat.divInt_add_divInt _ _ (by omega) (by omega)).symm
theorem fr_sub {n d n' d' : Int} (h : 0 < d) (h' : 0 < d') : fr (n * d' - n' * d) (d * d') = fr n d - fr n' d' := (Rat.divInt_sub_divInt _ _ (by omega) (by omega)).symm
theorem fr_mul {n d n' d' : Int} (h : 0 < d) (h' : 0 < d') : fr (n * n') (d * d') = fr n d * fr n' d' := (Rat.divInt_mul_divInt _ _ ).symm
theorem fr_int (n : Int) : fr n 1 = (n : Rat) := by
  have e := fr_self (n : Rat)
  rw [Rat.num_intCast, Rat.den_intCast] at e
  exact e
theorem num_int (n : Int) : ((n : Rat)).num = n := Rat.num_intCast n
theorem den_int (n : Int) : ((n : Rat)).den = 1 := Rat.den_intCast n
theorem lt_cross (a b : Rat) : a < b ↔ a.num * b.den < b.num * a.den := Rat.lt_iff a b
theorem eq_parts (a b : Rat) : a = b ↔ a.num = b.num ∧ a.den = b.den := ⟨fun h => by subst h; exact ⟨rfl, rfl⟩, fun h => Rat.ext h.1 h.2⟩
/-- a number whose numerator and denominator are below 2 ^ k -/
def Sz (k : Nat) (q : Rat) : Prop := q.num.natAbs < 2 ^ k ∧ q.den < 2 ^ k
theorem Sz.mono {j k : Nat} {q : Rat} (h : Sz j q) (hk : j ≤ k) : Sz k q := ⟨Nat.lt_of_lt_of_le h.1 (Nat.pow_le_pow_right (by decide) hk), Nat.lt_of_lt_of_le h.2 (Nat.pow_le_pow_right (by decide) hk)⟩
theorem sz_fr {k : Nat} {n d : Int} (h : 0 < d) (hn : n.natAbs < 2 ^ k) (hd : d.natAbs < 2 ^ k) : Sz k (fr n d) := by
  have x := red_le (n := n) h
  rw [red_num h, red_den h, Int.natAbs_natCast] at x
  exact ⟨Nat.lt_of_le_of_lt x.1 hn, Nat.lt_of_le_of_lt x.2 hd⟩
theorem nat_mul_lt {a b j k : Nat} (h : a < 2 ^ j) (h' : b < 2 ^ k) : a * b < 2 ^ (j + k) := by rw [Nat.pow_add]; exact Nat.mul_lt_mul'' h h'
theorem mul_lt2 {j k : Nat} {a b : Int} (ha : a.natAbs < 2 ^ j) (hb : b.natAbs < 2 ^ k) : (a * b).natAbs < 2 ^ (j + k) := by rw [Int.natAbs_mul]; exact nat_mul_lt ha hb
theorem add_lt2 {k : Nat} {a b : Int} (ha : a.natAbs < 2 ^ k) (hb : b.natAbs < 2 ^ k) : (a + b).natAbs < 2 ^ (k + 1) := by rw [Nat.pow_succ]; omega
theorem sub_lt2 {k : Nat} {a b : Int} (ha : a.natAbs < 2 ^ k) (hb : b.natAbs < 2 ^ k) : (a - b).natAbs < 2 ^ (k + 1) := by rw [Nat.pow_succ]; omega
theorem Sz.n {k : Nat} {q : Rat} (h : Sz k q) : q.num.natAbs < 2 ^ k := h.1
theorem Sz.d {k : Nat} {q : Rat} (h : Sz k q) : (q.den : Int).natAbs < 2 ^ k := by rw [Int.natAbs_natCast]; exact h.2
theorem sz_add {j k : Nat} {a b : Rat} (ha : Sz j a) (hb : Sz k b) : Sz (j + k + 1) (a + b) := by
  have e : a + b = fr (a.num * b.den + b.num * a.den) ((a.den : Int) * b.den) := by rw [fr_add (den_pos a) (den_pos b), fr_self, fr_self]
  rw [e]
  refine sz_fr (Int.mul_pos (den_pos a) (den_pos b)) ?_ ?_
  · have x := mul_lt2 ha.n hb.d
    have y := mul_lt2 hb.n ha.d
    rw [Nat.add_comm k j] at y
    exact add_lt2 x y
  · exact Nat.lt_trans (mul_lt2 ha.d hb.d) (Nat.pow_lt_pow_right (by decide) (by omega))
theorem sz_sub {j k : Nat} {a b : Rat} (ha : Sz j a) (hb : Sz k b) : Sz (j + k + 1) (a - b) := by
  have e : a - b = fr (a.num * b.den - b.num * a.den) ((a.den : Int) * b.den) := by rw [fr_sub (den_pos a) (den_pos b), fr_self, fr_self]
  rw [e]
  refine sz_fr (Int.mul_pos (den_pos a) (den_pos b)) ?_ ?_
  · have x := mul_lt2 ha.n hb.d
    have y := mul_lt2 hb.n ha.d
    rw [Nat.add_comm k j] at y
    exact sub_lt2 x y
  · exact Nat.lt_trans (mul_lt2 ha.d hb.d) (Nat.pow_lt_pow_right (by decide) (by omega))
theorem sz_mul {j k : Nat} {a b : Rat} (ha : Sz j a) (hb : Sz k b) : Sz (j + k) (a * b) := by
  have e : a * b = fr (a.num * b.num) ((a.den : Int) * b.den) := by rw [fr_mul (den_pos a) (den_pos b), fr_self, fr_self]
  rw [e]
  exact sz_fr (Int.mul_pos (den_pos a) (den_pos b)) (mul_lt2 ha.n hb.n) (mul_lt2 ha.d hb.d)
theorem sz_int {k : Nat} {n : Int} (h : n.natAbs < 2 ^ k) (hk : 0 < k := by decide) : Sz k (n : Rat) := by
  refine ⟨by rw [num_int]; exact h, ?_⟩
  rw [den_int]
  exact Nat.one_lt_two_pow (by omega)
theorem fr_nonneg {n d : Int} (h : 0 < d) : 0 ≤ fr n d ↔ 0 ≤ n := Rat.divInt_nonneg_iff_of_pos_right h
theorem num_neg {q : Rat} : q.num < 0 ↔ q < 0 := by
  have := @Rat.num_nonneg q
  constructor
  · intro h
    have : ¬ (0 ≤ q) := fun z => absurd (Rat.num_nonneg.mpr z) (by omega)
    exact Rat.not_le.mp this
  · intro h
    have h2 : ¬ (0 ≤ q.num) := fun z => Rat.not_lt.mpr (Rat.num_nonneg.mp z) h
    omega
end Mine
set_option Elab.async false
set_option linter.all false
/-! The mathematics of bounds. -/
namespace Mine
def pairsI (m : Int) : Int := m * (m - 1) / 2
theorem pairs_two (m : Int) : 2 * pairsI m = m * (m - 1) := by
  have h : m * (m - 1) % 2 = 0 := by
    have : m % 2 = 0 ∨ m % 2 = 1 := by omega
    rcases this with e | e
    · rw [Int.mul_emod, e]; simp
    · have : (m - 1) % 2 = 0 := by omega
      rw [Int.mul_emod, this]; simp
  unfold pairsI
  omega
theorem pairs_mul (k q : Int) : pairsI (k * q) = pairsI k * q + k * k * pairsI q := by
  have a := pairs_two (k * q)
  have b := pairs_two k
  have c := pairs_two q
  generalize pairsI (k * q) = x at *
  generalize pairsI k = y at *
  generalize pairsI q = z at *
  grind
theorem pairs_nonneg {m : Int} (h : 0 ≤ m) : 0 ≤ pairsI m := by
  have a := pairs_two m
  by_cases e : m = 0
  · subst e; simp [pairsI]
  · have : 0 ≤ m * (m - 1) := Int.mul_nonneg h (by omega)
    omega
theorem pairs_lt {k : Nat} {m : Int} (h0 : 0 ≤ m) (h : m.natAbs < 2 ^ k) : (pairsI m).natAbs < 2 ^ (k + k) := by
  have a := pairs_two m
  have b := pairs_nonneg h0
  have c : pairsI m ≤ m * m := by
    have : m * (m - 1) ≤ m * m := Int.mul_le_mul_of_nonneg_left (by omega) h0
    omega
  have d := mul_lt2 h h
  omega
structure Bq where
  a : Rat
  b : Rat
  c : Rat
  lim : Option Int
def over (lim : Option Int) (q : Int) : Bool := match lim with | some l => decide (l < q) | none => false
def Bq.sum (x : Bq) (q : Int) : Rat := x.a + x.b * (q : Rat) + x.c * ((pairsI q : Int) : Rat)
def Bq.at (x : Bq) (q : Int) : Rat := if q = 0 then 0 else if over x.lim q = true then 1 else if x.sum q < 1 then x.sum q else 1
def lmin : Option Int → Option Int → Option Int
  | none, y => y
  | some x, none => some x
  | some x, some y => some (min x y)
def Bq.plus (x y : Bq) : Bq := ⟨x.a + y.a, x.b + y.b, x.c + y.c, lmin x.lim y.lim⟩
def Bq.zero : Bq := ⟨0, 0, 0, none⟩
def Bq.within (x : Bq) (k : Int) : Bq := if k = 0 then Bq.zero else ⟨x.a, x.b * (k : Rat) + x.c * ((pairsI k : Int) : Rat), x.c * ((k * k : Int) : Rat), x.lim.map (· / k)⟩
structure Bq.Ok (n : Nat) (x : Bq) : Prop where
  a0 : 0 ≤ x.a
  b0 : 0 ≤ x.b
  c0 : 0 ≤ x.c
  az : Sz n x.a
  bz : Sz n x.b
  cz : Sz n x.c
  l0 : ∀ l, x.lim = some l → 0 ≤ l
theorem Bq.Ok.mono {j k : Nat} {x : Bq} (h : x.Ok j) (hk : j ≤ k) : x.Ok k := ⟨h.a0, h.b0, h.c0, h.az.mono hk, h.bz.mono hk, h.cz.mono hk, h.l0⟩
theorem cast_nonneg {n : Int} (h : 0 ≤ n) : (0 : Rat) ≤ (n : Rat) := Rat.intCast_nonneg.mpr h
theorem Bq.at_le (x : Bq) (q : Int) : x.at q ≤ 1 := by
  unfold Bq.at
  split
  · decide
  · split
    · exact Rat.le_refl
    · split
      · rename_i h; exact Rat.le_of_lt h
      · exact Rat.le_refl
theorem Bq.within_sum (x : Bq) {k : Int} (hk : k ≠ 0) (q : Int) : (x.within k).sum q = x.sum (k * q) := by
  unfold Bq.within Bq.sum
  rw [if_neg hk]
  dsimp only
  rw [pairs_mul]
  simp only [Rat.intCast_add, Rat.intCast_mul]
  grind
theorem Bq.zero_at (q : Int) : Bq.zero.at q = 0 := by
  unfold Bq.at Bq.sum Bq.zero over
  dsimp only
  split
  · rfl
  · have e : (0 : Rat) + 0 * (q : Rat) + 0 * ((pairsI q : Int) : Rat) = 0 := by grind
    rw [e]
    simp
    try decide
/-- within is at least the bound for as many inner calls -/
theorem Bq.within_at (x : Bq) {n : Nat} (o : x.Ok n) {k q : Int} (hk : 0 ≤ k) (hq : 0 ≤ q) : ¬ ((x.within k).at q < x.at (k * q)) := by
  by_cases e : k = 0
  · subst e
    have h1 : x.within 0 = Bq.zero := rfl
    have h2 : x.at (0 * q) = 0 := by rw [Int.zero_mul]; rfl
    rw [h1, h2, Bq.zero_at]
    exact Rat.lt_irrefl
  have k0 : 0 < k := by omega
  by_cases e2 : q = 0
  · subst e2
    have h1 : x.at (k * 0) = 0 := by rw [Int.mul_zero]; rfl
    have h2 : (x.within k).at 0 = 0 := rfl
    rw [h1, h2]
    exact Rat.lt_irrefl
  have q0 : 0 < q := by omega
  have kq : k * q ≠ 0 := by
    have := Int.mul_pos k0 q0
    omega
  have top := x.at_le (k * q)
  have lims : (x.within k).lim = x.lim.map (· / k) := by unfold Bq.within; rw [if_neg e]
  have ov : over (x.lim.map (· / k)) q = over x.lim (k * q) := by
    cases x.lim with
    | none => rfl
    | some l =>
      show decide (l / k < q) = decide (l < k * q)
      refine decide_eq_decide.mpr ?_
      rw [Int.mul_comm k q]
      exact Int.ediv_lt_iff_lt_mul k0
  have s := x.within_sum e q
  unfold Bq.at
  rw [if_neg e2, if_neg kq, lims, ov, s]
  exact Rat.lt_irrefl
theorem Bq.plus_ok {n : Nat} {x y : Bq} (hx : x.Ok n) (hy : y.Ok n) : (x.plus y).Ok (n + n + 1) := by
  refine ⟨Rat.add_nonneg hx.a0 hy.a0, Rat.add_nonneg hx.b0 hy.b0, Rat.add_nonneg hx.c0 hy.c0, sz_add hx.az hy.az, sz_add hx.bz hy.bz, sz_add hx.cz hy.cz, fun l e => ?_⟩
  have h1 := hx.l0
  have h2 := hy.l0
  have e' : lmin x.lim y.lim = some l := e
  revert h1 h2 e'
  cases x.lim with
  | none => intro h1 h2 e'; exact h2 l e'
  | some a =>
    cases y.lim with
    | none => intro h1 h2 e'; exact h1 l e'
    | some b =>
      intro h1 h2 e'
      have a0 := h1 a rfl
      have b0 := h2 b rfl
      have : min a b = l := Option.some.inj e'
      omega
theorem Bq.within_ok {x : Bq} (hx : x.Ok 30) {k : Int} (hk : 0 ≤ k) (h : k.natAbs < 2 ^ 10) : (x.within k).Ok 100 := by
  unfold Bq.within
  split
  · exact ⟨by decide, by decide, by decide, ⟨by decide, by decide⟩, ⟨by decide, by decide⟩, ⟨by decide, by decide⟩, fun l e => nomatch e⟩
  · rename_i e
    have sk : Sz 10 (k : Rat) := sz_int h
    have sp : Sz 20 ((pairsI k : Int) : Rat) := sz_int (pairs_lt hk h)
    have skk : Sz 20 ((k * k : Int) : Rat) := sz_int (mul_lt2 h h)
    have p0 := cast_nonneg (pairs_nonneg hk)
    have k0 := cast_nonneg hk
    have kk0 := cast_nonneg (Int.mul_nonneg hk hk)
    refine ⟨hx.a0, Rat.add_nonneg (Rat.mul_nonneg hx.b0 k0) (Rat.mul_nonneg hx.c0 p0), Rat.mul_nonneg hx.c0 kk0, hx.az.mono (by decide), (sz_add (sz_mul hx.bz sk) (sz_mul hx.cz sp)).mono (by decide), (sz_mul hx.cz skk).mono (by decide), fun l z => ?_⟩
    have h1 := hx.l0
    revert h1 z
    cases x.lim with
    | none => intro z h1; cases z
    | some a =>
      intro z h1
      have a0 := h1 a rfl
      cases z
      exact Int.ediv_nonneg a0 hk
theorem sz_one : Sz 2 (1 : Rat) := ⟨by decide, by decide⟩
theorem sz_zero : Sz 2 (0 : Rat) := ⟨by decide, by decide⟩
theorem Bq.sz_sum {x : Bq} (hx : x.Ok 100) {q : Int} (h0 : 0 ≤ q) (h : q.natAbs < 2 ^ 64) : Sz 165 (x.b * (q : Rat)) ∧ Sz 266 (x.a + x.b * (q : Rat)) ∧ Sz 229 (x.c * ((pairsI q : Int) : Rat)) ∧ Sz 500 (x.sum q) := by
  have sq : Sz 64 (q : Rat) := sz_int h
  have sp : Sz 128 ((pairsI q : Int) : Rat) := sz_int (pairs_lt h0 h)
  exact ⟨(sz_mul hx.bz sq).mono (by decide), (sz_add hx.az (sz_mul hx.bz sq)).mono (by decide), (sz_mul hx.cz sp).mono (by decide), (sz_add (sz_add hx.az (sz_mul hx.bz sq)) (sz_mul hx.cz sp)).mono (by decide)⟩
theorem Bq.sz_at {x : Bq} (hx : x.Ok 100) {q : Int} (h0 : 0 ≤ q) (h : q.natAbs < 2 ^ 64) : Sz 500 (x.at q) := by
  unfold Bq.at
  split
  · exact sz_zero.mono (by decide)
  · split
    · exact sz_one.mono (by decide)
    · split
      · exact (Bq.sz_sum hx h0 h).2.2.2
      · exact sz_one.mono (by decide)
end Mine
set_option Elab.async false
set_option linter.all false
set_option maxRecDepth 100000
set_option maxHeartbeats 4000000
/-! An own error under ValueError whose __init__ begins with super().__init__(e): its __init__ as a def that keeps a promise (pmk_oex makes of it the rule of C(e, ..)). -/
namespace Mine
open PySem PySem.Calls L2 NdefX PyProof.Rows
section
variable {X : Cx} {pins : List (Addr × Obj)} {σ : L2.St} {H : Hp} {s : Shared} {A : Around} {E : Value → Shared → Prop}
/-- the built-in __init__, bound to an exception that is being made, is called -/
theorem call_mw {a C u : Addr} {us : List Value} {Q : Value → Shared → Prop} (T : OexC X.K C) (I : Inv X pins σ H s) (e : H a = some (exo a C none)) (hu : s.heap.get? u = some (PySem.W.kxs_mw "ValueError.__init__" a)) (hl : us.length ≤ sizeLine)
    (h : ∀ s', Inv X pins σ H s' → Q .none s') : wpAny (model X.prog X.w) A (call (.ref u) us) Q E s := by
  obtain ⟨nm, q, N, bs, bm, sn, sub, ab, col, dd, k0, k1, k2, k3, k5, hC, hbm⟩ := T.cls
  obtain ⟨t1, ho⟩ := exo_at I.hok e
  have hCh := I.kIn _ _ hC
  obtain ⟨hp, g, d, t, os⟩ := s
  refine wpAny_call (codeAny_of_tree ?_)
  show wpAny _ A.in1 (callAny (.ref u) ⟨us, []⟩) _ _ _
  simp only [callAny]
  refine wpAny_bind (wpAny_load hu ?_)
  simp only [PySem.W.kxs_mw, show (Value.type "method-wrapper" == Value.type "method" || Value.type "method-wrapper" == Value.type "builtin_function_or_method" || Value.type "method-wrapper" == Value.type "method-wrapper") = true by decide, if_true]
  refine PySem.W.KFB.if_so (by decide) ?_
  refine wpAny_bind (PySem.W.check_bound_init F.excBase_ValueError.toExcCallFacts hCh ho rfl ?_)
  refine wpAny_bind (wpAny_pure (wpAny_pure ?_))
  refine ⟨plainId_quiet F.excBase_ValueError.init.plain _, codeAny_builtin F.excBase_ValueError.initEntry ?_⟩
  refine PySem.W.exc_init_tree (cls := .ref C) (t0 := t1) (dv := none) (c2 := .none) (c3 := .none) (b4 := .bool false) ho hl fun h' k hx _ => ?_
  have J := I.write (t' := t) (x := a) (e := a) (o := exo a C none) (by rw [e]; exact True.intro) (.inl rfl) k ⟨_, hx⟩ (exo_ok hx)
  have eu : upd H a (exo a C none) = H := by
    funext b
    by_cases hb : b = a
    · rw [hb, upd_same, e]
    · rw [upd_ne hb]
  rw [eu] at J
  exact h _ J
end
section
variable {CX : CXT} {P : Program} {w : World} {K : PySem.W.Frag} {mg : Str → Option Value} {base : Heap} {k : Nat} {f cda cc D : Addr} {name qual self : Str} {params : Arguments} {scope : Scope} {dV kV doc pm ct oc ccl cl : Value} {an od cdd cld : Option Addr}
  {osl ccs csl : Array (Option Value)} {vs0 : Array Value} {file : Str} {tf : Tok} {N ps0 : List Str} {sp : Sp} {p0 p1 p2 p3 p4 : Pos} {arg : Expr} {rest : List Stmt} {ar : Arg} {cdD : ClassData}
theorem one_look {n y : Str} {c0 c : Addr} (h : ([(n, c0)] : List (Str × Addr)).lookup y = some c) : y = n ∧ c = c0 := by
  unfold List.lookup at h
  split at h
  · rename_i e
    exact ⟨eq_of_beq e, (Option.some.inj h).symm⟩
  · cases h
/-- what the written part says of such an __init__ -/
structure SupIn (K : PySem.W.Frag) (D cda cc : Addr) : Prop where
  code : ∃ ccl cdd vs0 ccs file tf, K.lookup cda = some (⟨ccl, cdd, .fields vs0, ccs⟩ : Obj) ∧ vs0[2]? = some (Value.str file tf)
  cell : ∃ cl cld csl, K.lookup cc = some (⟨cl, cld, .cell (some (.ref D)), csl⟩ : Obj)
  any : PySem.W.nsIn K cStatics "thirdparty.any" = some none
  sup : PySem.W.ks_superIn K D D "__init__" = some (some (.builtin "ValueError.__init__"))
  subV : PySem.W.subIn K (.ref D) (.type "ValueError") = some true
  mro : PySem.W.mroIn K D (.ref D) = some true
theorem fn_super (lk : K.lookup f = some ⟨oc, od, .func (PySem.W.ksFn name qual params (.Expr (.Call (.Attribute (.Call (.Name "super" p0) [] [] p1) "__init__" p2) [arg] [] p3) p4 :: rest) scope dV kV doc pm an (.ref cda) ct cc), osl⟩)
    (hcd : PySem.W.codeIn K (.ref cda) qual = true) (S : NScope N (self :: ps0) ["__class__"] scope) (TO : OexC K D)
    (hcode : K.lookup cda = some ⟨ccl, cdd, .fields vs0, ccs⟩) (hvs : vs0[2]? = some (.str file tf)) (hfile : ((P.main.file : Str) == file) = true)
    (hcell : K.lookup cc = some ⟨cl, cld, .cell (some (.ref D)), csl⟩) (any : PySem.W.nsIn K cStatics "thirdparty.any" = some none)
    (sup : PySem.W.ks_superIn K D D "__init__" = some (some (.builtin "ValueError.__init__"))) (subV : PySem.W.subIn K (.ref D) (.type "ValueError") = some true) (mro : PySem.W.mroIn K D (.ref D) = some true)
    (hpar : (params.posonlyargs ++ params.args).head? = some ar) (har : ar.arg = self) (hks : scope.names.lookup ("super" : Str) = some .globalImplicit) (htop : (P.main.scope.names.lookup ("super" : Str)).isSome = false) (hsuper : mg "super" = none)
    (he : ∀ env, starEach [arg] env = [(false, eval arg env)] := by intro _; rfl) (hsw : ∀ L, swapsWith (.Call (.Attribute (.Call (.Name "super" p0) [] [] p1) "__init__" p2) [arg] [] p3) none p4.line (PySem.W.ksEnv qual scope L f (.ref cda) cc) = pure false := by intro _; rfl)
    {pl : Env → Sem Bool} (hev : ∀ env, eval (.Call (.Attribute (.Call (.Name "super" p0) [] [] p1) "__init__" p2) [arg] [] p3) env = (do
      let ov ← attributeBase (.Call (.Name "super" p0) [] [] p1) "__init__" env (eval (.Call (.Name "super" p0) [] [] p1) env)
      standAt p2.atName
      let (f, first) ← holding [ov] (getMethod ov "__init__" (pl env))
      callWith p3 f first (backTo p3 (starEach [arg] env)) []) := by intro _; rfl)
    (len : ∀ vs H Q E, sp vs H Q E → vs.length = (self :: ps0).length)
    (hbody : ∀ (A : Around) (outer : List Env) (s : Shared) (H : Hp) (vs : List V) (Q : VK) (E : XK), Room k (A.deeper (PySem.W.ksEnv qual scope s.heap.objs.size f (.ref cda) cc)) → sp vs H Q E →
      ∃ (a : Addr) (vr : List V) (ta : TA) (t : TS), vs = .ref a :: vr ∧ H a = some (exo a D none) ∧
        PA (ncx CX P w K mg base N ⟨name, qual, params, .Expr (.Call (.Attribute (.Call (.Name "super" p0) [] [] p1) "__init__" p2) [arg] [] p3) p4 :: rest, scope, [("__class__", cc)], cda⟩ f A outer s H E) [arg] ta ∧
        PSs (ncx CX P w K mg base N ⟨name, qual, params, .Expr (.Call (.Attribute (.Call (.Name "super" p0) [] [] p1) "__init__" p2) [arg] [] p3) p4 :: rest, scope, [("__class__", cc)], cda⟩ f A outer s H E) rest t ∧
        ta (startF N vs [none]) H fun ws H1 => ws.length ≤ 1000 ∧ H1 a = some (exo a D none) ∧ t { nx := fun _ H' => Q .non H', rt := Q } (startF N vs [none]) H1) :
    FnOk P w K mg base CX (k + 1) f (PySem.W.ksFn name qual params (.Expr (.Call (.Attribute (.Call (.Name "super" p0) [] [] p1) "__init__" p2) [arg] [] p3) p4 :: rest) scope dV kV doc pm an (.ref cda) ct cc) (self :: ps0) sp := by
  refine ⟨len, fun A outer s H args us vs Q E hr e0 hb r hsp => ?_⟩
  have hl := len _ _ _ _ hsp
  have KX : K.In s.heap := e0.mod.kin.keeps fun b o e => (e0.bs b o e).1
  have lim : s.heap.NoLimit := e0.mod.nolimit.keeps fun b o e => (e0.bs b o e).1
  refine PySem.ks_codeAny_call_defAt hr.depth (KX _ _ lk) rfl lim (PySem.W.codeRec_of KX hcd) rfl hb (fun x hx => S.nocell x hx) (fun ⟨n, v⟩ hy => S.par n (List.of_mem_zip hy).1) (fun h₁ hns kp => ?_) S.co S.gen S.kind
  obtain ⟨a, vr, ta, t, ev, ea, hA, hS, hta⟩ := hbody A outer s H vs Q E (hr.deeper _) hsp
  have C : CellsAt [("__class__", cc)] ["__class__"] [none] s.heap H := by
    have cb := e0.bs _ _ (e0.mod.kin _ _ hcell)
    refine ⟨rfl, fun y c e => ?_, fun x y c e1 e2 => ?_, fun i y e => ?_⟩
    · obtain ⟨_, rfl⟩ := one_look e
      exact ⟨cb.2, _, _, cb.1, rfl⟩
    · rw [(one_look e1).1, (one_look e2).1]
    · cases i with
      | zero =>
        have : y = "__class__" := (Option.some.inj e).symm
        subst this
        exact ⟨cc, rfl, fun v z => by cases z⟩
      | succ i => simp at e
  have I := inv_startN (F := ⟨name, qual, params, .Expr (.Call (.Attribute (.Call (.Name "super" p0) [] [] p1) "__init__" p2) [arg] [] p3) p4 :: rest, scope, [("__class__", cc)], cda⟩) (f := f) (CX := CX) (E := E) (tk := s.toks + ((self :: ps0).zip us).length) S hr.hd e0 hl r C hns kp
  have hN0 : N[0]? = some self := by
    have q := S.pre
    cases N with
    | nil => simp at q
    | cons n N' =>
      have q2 : n :: N'.take (ps0.length + 1) = self :: (ps0 ++ [("__class__" : Str)]) := q
      exact congrArg some (List.cons.inj q2).1
  have hself : ∃ m, h₁.Ns s.heap.objs.size m ∧ m self = some (.ref a) := by
    obtain ⟨m, hn, hlk⟩ := I.loc
    obtain ⟨u, ru, L⟩ := hlk 0 self (.ref a) hN0 (by subst ev; rfl) (.inl (S.par self List.mem_cons_self))
    obtain rfl : u = .ref a := ru
    rcases L with ⟨_, e⟩ | ⟨z | z, _⟩
    · exact ⟨m, hn, e⟩
    · have := S.par self List.mem_cons_self
      rw [show scope.names.lookup self = some .cell from z] at this
      cases this
    · have := S.par self List.mem_cons_self
      rw [show scope.names.lookup self = some .free from z] at this
      cases this
  obtain ⟨m, hm, hms⟩ := hself
  obtain ⟨mb, b1, b2⟩ := I.mod.blt
  obtain ⟨nm, q, NN, bs, bm, sn, sub, ab, col, dd, k0, k1, k2, k3, k5, hC, hbm⟩ := TO.cls
  have hDc : PySem.W.clsIn K D = some { name := nm, bases := bs, mro := .ref D :: bm, ns := NN, qualname := q, hasDict := true, slotNames := sn, subclasses := sub, abstract := ab, collection := col, hasDel := false } := by unfold PySem.W.clsIn; rw [hC] <;> rfl
  obtain ⟨t1, ho⟩ := exo_at I.hok ea
  have KH := I.kIn
  have hkc : scope.names.lookup ("__class__" : Str) = some .free := S.frk _ (List.mem_singleton.mpr rfl)
  have hint : ∀ L, interactive (PySem.W.ksEnv qual scope L f (.ref cda) cc) = false := fun L => by
    unfold interactive
    rw [show (PySem.W.ksEnv qual scope L f (.ref cda) cc).scope.kind = .function from S.kind]
    rfl
  refine PySem.ks_wpAt_execs_cons (PySem.ks_wpAt_Expr_any (PySem.ks_wpAt_MethodCall ?_ (hev _)) (hint _) (hsw _))
  refine PySem.ks_wpAt_super_base (ar := ar) hks hkc (by decide) rfl (KH _ _ lk) rfl hpar rfl (KH _ _ hcode) rfl hvs hfile htop ?_
  refine PySem.W.ks_loadName_global S.kind hks (Calls.loadGlobal_builtin (I.mod.glob.keeps I.bk) hsuper (b1.keeps I.bk) ((b2 "super" (by decide)).trans (by decide +kernel)) ⟨rfl, ?_⟩)
  refine wpAny_loadName_free S.kind hkc rfl ⟨_, KH _ _ hcell, rfl⟩ ?_
  refine wpAny_loadName_local S.kind (show scope.names.lookup ar.arg = some .local by rw [har]; exact S.par self List.mem_cons_self) hm (by rw [har]; exact hms) ?_
  refine PySem.ks_wpAny_isType_cls (KH _ _ hC) rfl ⟨rfl, ?_⟩
  refine PySem.ks_wpAny_call_super (KH _ _ hC) rfl ho rfl (fun c e => by cases e) (PySem.W.looks_mroIn KH mro) (fun h' e2 k2 => ?_)
  have I2 := I.kept (t' := s.toks + ((self :: ps0).zip us).length) k2
  obtain ⟨t2, ho2⟩ := exo_at I2.hok ea
  have IA : PySem.W.InstAt h' a ({ cls := .ref D, dict := none, data := .fields #[.ref t2, .none, .none, .none, .bool false, .none] } : Obj) D none := ⟨ho2, rfl, rfl, trivial⟩
  have KH2 : K.In h' := I2.kIn
  have supA : PySem.W.alongIn K "__init__" (((Value.ref D :: bm).dropWhile (· != .ref D)).drop 1) = some (some (.builtin "ValueError.__init__")) := by
    have z := sup
    unfold PySem.W.ks_superIn at z
    rw [hDc] at z
    exact z
  refine PySem.W.kxs_getMethod PySem.W.kxs_ValueError e2 (PySem.W.looks_opaque KH2 any) (l₀ := Value.ref D :: bm) (fun A Q E s k q => wpAny_bind ((PySem.W.looks_clsIn KH2 hDc) A _ E s k (wpAny_pure q))) rfl KH2 supA (IA.type.andThen (PySem.W.looks_subIn KH2 subV)) (PySem.W.ks_ne KH2 IA hDc) (by decide) ?_
  have I3 := I2.kept (h' := h'.push (PySem.W.kxs_mw "ValueError.__init__" a)) (t' := s.toks + ((self :: ps0).zip us).length + 1) (fun b u e => Heap.get?_push_of_some _ e)
  have I4 := I3.pins_of (pins' := [(h'.objs.size, PySem.W.kxs_mw "ValueError.__init__" a)]) (fun p hp => by
    obtain rfl : p = (h'.objs.size, PySem.W.kxs_mw "ValueError.__init__" a) := List.mem_singleton.mp hp
    exact ⟨Heap.get?_push_at rfl rfl, I2.hok.fresh (Nat.le_refl _), fun z => absurd I2.lt (by rw [← z]; exact Nat.lt_irrefl _), I2.nofs (Nat.le_refl _), fun v z => by cases z⟩)
  have hA4 := hA.run p3 _ _ _ _ _ I4 hta
  rw [he] at hA4 ⊢
  refine PySem.W.kxs_callWith (i := "ValueError.__init__") (x := a) rfl ?_
  refine evalArgs_plain (thn hA4 fun us4 s4 ⟨ws, H1, I5, r5, hz, ea5, ht⟩ => ⟨(I5.pin _ (List.mem_append_right _ (List.mem_singleton.mpr rfl))).1, ?_⟩)
  have hlen : us4.length ≤ sizeLine := by
    rw [← Paired.length r5, sizeLine_eq]
    omega
  refine call_mw TO I5 ea5 (I5.pin _ (List.mem_append_right _ (List.mem_singleton.mpr rfl))).1 hlen fun s5 J => ?_
  refine wpAt_of_wpAny (wpAny_mono (hS.run _ s5 _ _ _ J ht) (fun fl s' hs => ?_) fun e s' hs => hs)
  have fin : ∀ {σ' : L2.St} {H' : Hp} {v : V} {u : Value} {pn : List (Addr × Obj)}, Inv (ncx CX P w K mg base N ⟨name, qual, params, .Expr (.Call (.Attribute (.Call (.Name "super" p0) [] [] p1) "__init__" p2) [arg] [] p3) p4 :: rest, scope, [("__class__", cc)], cda⟩ f A outer s H E) pn σ' H' s' → L2.RelV v u → Q v H' → CE outer P w H s Q u s' :=
    fun {σ' H' v u pn} J rv q => ⟨v, H', J.os, J.bare, J.base, J.hok, rv, q⟩
  cases fl with
  | ret u =>
    obtain ⟨v, σ', H', J, rv, q⟩ := hs
    exact fin J rv q
  | next =>
    obtain ⟨σ', H', J, q⟩ := hs
    exact fin (v := V.non) (u := Value.none) J rfl q
  | brk =>
    obtain ⟨_, _, _, q⟩ := hs
    exact False.elim q
  | cont =>
    obtain ⟨_, _, _, q⟩ := hs
    exact False.elim q
end
end Mine
set_option Elab.async false
set_option linter.all false
set_option maxRecDepth 100000
set_option maxHeartbeats 4000000
/-! class E(..): def __init__(self, x): super().__init__(f"..{x}.."); self.f = x, E under ValueError: C(e) as a rule. -/
namespace Mine
open PySem PySem.Calls L2 NdefX PyProof.Rows
structure ErrF (K : PySem.W.Frag) (mg : Str → Option Value) (C f : Addr) (fd : FuncData) (qual : Str) (st : Stmt) (file fld : Str) : Prop where
  ex : ∃ (oc : Value) (od : Option Addr) (osl : Array (Option Value)) (dV kV doc pm : Value) (an : Option Addr) (cda : Addr) (ct : Value) (cc : Addr) (ccl : Value) (cdd : Option Addr) (ccs : Array (Option Value)) (vs0 : Array Value) (tf : Tok) (cl : Value) (cld : Option Addr) (csl : Array (Option Value)),
    fd = PySem.W.ksFn "__init__" qual (defArgs st) (defBody st) (defScope st) dV kV doc pm an (.ref cda) ct cc ∧ K.lookup f = some ⟨oc, od, .func fd, osl⟩ ∧ PySem.W.codeIn K (.ref cda) qual = true ∧
    K.lookup cda = some ⟨ccl, cdd, .fields vs0, ccs⟩ ∧ vs0[2]? = some (.str file tf) ∧ K.lookup cc = some ⟨cl, cld, .cell (some (.ref C)), csl⟩
  any : PySem.W.nsIn K cStatics "thirdparty.any" = some none
  sup : PySem.W.ks_superIn K C C "__init__" = some (some (.builtin "ValueError.__init__"))
  subV : PySem.W.subIn K (.ref C) (.type "ValueError") = some true
  mro : PySem.W.mroIn K C (.ref C) = some true
  T : OexC K C
  iC : PySem.W.findIn K (.ref C) "__init__" = some (some (.ref f))
  tI : PySem.W.typeIn K (.ref f) = some (.type "function")
  no : PySem.W.findIn K (.ref C) fld = some none
  z : mg "super" = none
/-- the program's own file -/
def PrF (P : Program) (file : Str) : Prop := ((P.main.file : Str) == file) = true ∧ (P.main.scope.names.lookup ("super" : Str)).isSome = false
theorem len_app {a b : Str} {m n : Nat} (ha : a.length ≤ m) (hb : b.length ≤ n) : (a ++ b).length ≤ m + n := by rw [Str.length_append]; exact Nat.add_le_add ha hb
theorem int_len {i : Int} (hi : i.natAbs < 2 ^ 64) : (Str.ofString (toString i)).length ≤ 65 ∧ i.natAbs.log2 < 1920 := by
  have h := PySem.Flt.log2_lt_of (k := 64) (by decide) hi
  refine ⟨?_, Nat.lt_of_lt_of_le h (by decide)⟩
  rw [PySem.ofString_length]
  exact int_text_length_le (k := 64) (by decide) h
theorem emp_len : Str.empty.length ≤ 0 := by decide +kernel
section
variable {a b : Str} {σ : L2.St} {H : Hp} {Q : VK}
theorem js_I3 {i : Int} (ha : a.length ≤ 1000) (hb : b.length ≤ 1000) (e : σ[1]? = some (some (.int i))) (hi : i.natAbs < 2 ^ 64) (q : ∀ t : Str, Q (.str t) H) :
    tJs [tC (.str a), tFmt (tVar 1), tC (.str b)] Str.empty σ H fun out H1 => Q (.str out) H1 := by
  have l1 := len_app emp_len ha
  have l2 := len_app l1 (int_len hi).1
  have l3 := len_app l2 hb
  exact ⟨_, rfl, Nat.le_trans l1 (by decide), _, e, .inr ⟨i, rfl, (int_len hi).2, _, rfl, Nat.le_trans l2 (by decide), _, rfl, Nat.le_trans l3 (by decide), q _⟩⟩
theorem js_S3 {y : Str} (ha : a.length ≤ 1000) (hb : b.length ≤ 1000) (e : σ[1]? = some (some (.str y))) (hi : y.length ≤ 1000) (q : ∀ t : Str, Q (.str t) H) :
    tJs [tC (.str a), tFmt (tVar 1), tC (.str b)] Str.empty σ H fun out H1 => Q (.str out) H1 := by
  have l1 := len_app emp_len ha
  have l2 := len_app l1 hi
  have l3 := len_app l2 hb
  exact ⟨_, rfl, Nat.le_trans l1 (by decide), _, e, .inl ⟨y, rfl, Nat.le_trans hi (by decide), _, rfl, Nat.le_trans l2 (by decide), _, rfl, Nat.le_trans l3 (by decide), q _⟩⟩
theorem js_S2 {y : Str} (ha : a.length ≤ 1000) (e : σ[1]? = some (some (.str y))) (hi : y.length ≤ 1000) (q : ∀ t : Str, Q (.str t) H) :
    tJs [tC (.str a), tFmt (tVar 1)] Str.empty σ H fun out H1 => Q (.str out) H1 := by
  have l1 := len_app emp_len ha
  have l2 := len_app l1 hi
  exact ⟨_, rfl, Nat.le_trans l1 (by decide), _, e, .inl ⟨y, rfl, Nat.le_trans hi (by decide), _, rfl, Nat.le_trans l2 (by decide), q _⟩⟩
end
/-- what such an __init__ promises -/
def spErr (D : Addr) (fld : Str) (ok : V → Prop) : Sp := fun vs H Q _ => ∃ (a : Addr) (y : V), vs = [.ref a, y] ∧ H a = some (exo a D none) ∧ ok y ∧ ∀ dx, H dx = none → dx ≠ a → Q .non (upd (upd H dx (exd dx [(fld, y)])) a (exo a D (some dx)))
section
variable {P : Program} {w : World} {K : PySem.W.Frag} {mg : Str → Option Value} {base : Heap} {k : Nat} {C f : Addr} {fd : FuncData} {qual file fld x : Str} {st : Stmt} {p0 p1 p2 p3 p4 a1 a2 a3 a4 : Pos} {arg : Expr} {ar : Arg} {targ : TE} {ok : V → Prop}
theorem err_ok (F : ErrF K mg C f fd qual st file fld) (hfile : ((P.main.file : Str) == file) = true) (htop : (P.main.scope.names.lookup ("super" : Str)).isSome = false)
    (hb : defBody st = [.Expr (.Call (.Attribute (.Call (.Name "super" p0) [] [] p1) "__init__" p2) [arg] [] p3) p4, .Assign [.Attribute (.Name "self" a1) fld a2] (.Name x a3) a4])
    (S : NScope [("self" : Str), x, "__class__"] [("self" : Str), x] ["__class__"] (defScope st)) (hpar : ((defArgs st).posonlyargs ++ (defArgs st).args).head? = some ar) (har : ar.arg = "self") (hks : (defScope st).names.lookup ("super" : Str) = some .globalImplicit)
    (he : ∀ env, starEach [arg] env = [(false, eval arg env)]) (hsw : ∀ env, swapsWith (.Call (.Attribute (.Call (.Name "super" p0) [] [] p1) "__init__" p2) [arg] [] p3) none p4.line env = pure false)
    {pl : Env → Sem Bool} (hev : ∀ env, eval (.Call (.Attribute (.Call (.Name "super" p0) [] [] p1) "__init__" p2) [arg] [] p3) env = (do
      let ov ← attributeBase (.Call (.Name "super" p0) [] [] p1) "__init__" env (eval (.Call (.Name "super" p0) [] [] p1) env)
      standAt p2.atName
      let (f, first) ← holding [ov] (getMethod ov "__init__" (pl env))
      callWith p3 f first (backTo p3 (starEach [arg] env)) []))
    (hsw2 : ∀ env, swapsWith (.Name x a3) (some (.Attribute (.Name "self" a1) fld a2)) a4.line env = pure false)
    (hx : (x == ("__debug__" : Str)) = false) (hx2 : (x == ("__classdict__" : Str)) = false)
    (harg : ∀ X : Cx, X.N = [("self" : Str), x, "__class__"] → X.env.scope = defScope st → PE X arg targ)
    (htarg : ∀ (σ : L2.St) (H : Hp) (y : V) (Q : VK), σ[1]? = some (some y) → ok y → (∀ t : Str, Q (.str t) H) → targ σ H Q) :
    FnOk P w K mg base CX0 (k + 1) f fd [("self" : Str), x] (spErr C fld ok) := by
  obtain ⟨oc, od, osl, dV, kV, doc, pm, an, cda, ct, cc, ccl, cdd, ccs, vs0, tf, cl, cld, csl, efd, lk, hcd, hcode, hvs, hcell⟩ := F.ex
  rw [hb] at efd
  subst efd
  refine fn_super lk hcd S F.T hcode hvs hfile hcell F.any F.sup F.subV F.mro hpar har hks htop F.z he (fun _ => hsw _) hev (fun vs H Q E ⟨a, y, e, _⟩ => by rw [e]; rfl) (fun A outer s H vs Q E hr h => ?_)
  obtain ⟨a, y, e, ea, oy, q⟩ := h
  subst e
  have vx : ∀ z : Str, z ∈ [("self" : Str), x] → Vis (defScope st) z := fun z hz => .inl (S.par z hz)
  refine ⟨a, [y], _, _, rfl, ea, pa_cons (harg _ rfl rfl) pa_nil (by rw [he] <;> first | rfl | simp [starEach]), pss_one (ps_ost (pe_var (i := 0) rfl (vx _ List.mem_cons_self)) (pe_var (i := 1) rfl (vx _ (List.mem_cons_of_mem _ List.mem_cons_self)) hx hx2) (hsw2 _)), ?_⟩
  refine htarg _ _ y _ rfl oy fun t => ?_
  show _ ∧ _
  refine ⟨by simp, ea, y, rfl, .ref a, rfl, a, C, rfl, F.T, F.no, .inl ⟨ea, fun dx hn hd => q dx hn hd⟩⟩
/-- C(e) -/
def tErr (C : Addr) (fld : Str) (ok : V → Prop) (ta : TA) : L2.St → Hp → XK → Prop := fun σ H Q => ta σ H fun vs H1 => ∃ y, vs = [y] ∧ ok y ∧ ∀ d, H1 d = none → Q (.ref C) (some d) (upd H1 d (.xd [(fld, y)]))
theorem pmk_err {X : Cx} {nm : Str} {e : Expr} {es : List Expr} {ta : TA} {p pos : Pos} (F : ErrF X.K X.mg C f fd qual st file fld) (G : FnOk X.prog X.w X.K X.mg X.base CX0 k f fd [("self" : Str), x] (spErr C fld ok)) (hb : Binds X.K fd [("self" : Str), x] [])
    (hr : Room (k + 1) X.A) (hg : Gl X nm) (hm : X.mg nm = some (.ref C)) (ha : PA X (e :: es) ta)
    (hdb : (nm == ("__debug__" : Str)) = false := by decide) (he : starEach (e :: es) X.env = (false, eval e X.env) :: starEach es X.env := by rfl) (hpl : (backTo pos (starEach es X.env)).any (·.1) = false := by rfl) :
    PMk X (.Call (.Name nm p) (e :: es) [] pos) (tErr C fld ok ta) := by
  intro pins s σ H Q I h
  have ha' : PA X (e :: es) (fun σ H Q => ∃ Q', ta σ H Q' ∧ ∀ vs H1, Q' vs H1 → Q vs H1) := ⟨fun pos pins s σ H Q I ⟨Q', q, m⟩ => thn (ha.run pos pins s σ H Q' I q) fun us s1 ⟨vs, H1, J, r, z⟩ => ⟨vs, H1, J, r, m _ _ z⟩⟩
  refine pmk_oex F.T F.iC F.tI G hr hb .nil pass0 hg hm ha' hdb he hpl pins s σ H Q I ⟨_, h, fun vs H1 z => ?_⟩
  obtain ⟨y, rfl, oy, q⟩ := z
  refine ⟨by simp, fun a hna => ?_⟩
  show spErr C fld ok [.ref a, y] _ _ _
  refine ⟨a, y, rfl, upd_same, oy, fun dx hd hn => ⟨rfl, dx, [(fld, y)], upd_same, ?_, ?_, ?_⟩⟩
  · rw [upd_ne hn, upd_same]
  · rw [upd_ne hn] at hd
    exact hd
  · rw [upd_ne hn] at hd
    have e : upd (del (upd (upd (upd H1 a (exo a C none)) dx (exd dx [(fld, y)])) a (exo a C (some dx))) a) dx (.xd [(fld, y)]) = upd H1 dx (.xd [(fld, y)]) := by
      funext b
      by_cases h1 : b = dx
      · rw [h1, upd_same, upd_same]
      · rw [upd_ne h1, upd_ne h1]
        by_cases h2 : b = a
        · rw [h2, del_same, hna]
        · rw [del_ne h2, upd_ne h2, upd_ne h1, upd_ne h2]
    rw [e]
    exact q dx hd
end
end Mine
set_option Elab.async false
set_option linter.all false
set_option maxRecDepth 100000
set_option maxHeartbeats 2000000
/-! t + u of two tuples, whatever is empty. -/
namespace CatB
open PySem L2 Gm
def rCatB (K : PySem.W.Frag) : R2 := fun x y H Q => ∃ a b xs ys, x = .ref a ∧ y = .ref b ∧ SqT K H a xs ∧ SqT K H b ys ∧ xs.length + ys.length ≤ sizeLine ∧ ∀ p H', Same H H' → SqT K H' p (xs ++ ys) → Q (.ref p) H'
theorem op_catB {X : Cx} (K : PySem.W.Frag) (h : X.K = K) : OpR X (binaryOp .Add) (rCatB K) := by
  subst h
  intro pins s σ H x y v u Q I rx ry h
  obtain ⟨a, b, xs, ys, rfl, rfl, ha, hb, hz, q⟩ := h
  refine op_catA pins s σ H _ _ v u Q I rx ry ⟨a, b, xs, ys, rfl, rfl, ha, hb, hz, fun e => ?_, fun _ e => ?_, fun _ _ p hp => q p _ (same_new hp _) (SqT.of upd_same)⟩
  · refine q b H (Same.refl _) ?_
    rw [e]
    exact hb
  · refine q a H (Same.refl _) ?_
    rw [e, List.append_nil]
    exact ha
end CatB
set_option Elab.async false
set_option linter.all false
set_option maxRecDepth 100000
set_option maxHeartbeats 4000000
/-! xs.extend(t), t a tuple. -/
namespace ExtT
open PySem PySem.Calls PyProof.Rows L2 PySem.AutoSeq1
theorem meets_extT (l b : Addr) (its its2 : Array Value) (n n2 : Nat) (dd : Option Addr) (sl : Array (Option Value)) (h0 : ¬ (!its.isEmpty && Builtin.List.listTooLong (its.size + its2.size)) = true) (h1 : its.size ≤ sizeLine) (h2 : its.size + its2.size ≤ sizeLine + 1) :
    Meets (Builtin.«list.extend» ⟨[.ref l, .ref b], []⟩) (fun _ R s => s.heap.get? l = some { cls := .type "list", dict := none, data := .seq its n, slots := #[] } ∧
      s.heap.get? b = some { cls := .type "tuple", dict := dd, data := .seq its2 n2, slots := sl } ∧ R (.ok (.ret Value.none)) { s with heap := s.heap.update l (Obj.mapSeq fun x => x ++ its2), toks := s.toks }) :=
  .of_wp fun prog w A R s h => by
    obtain ⟨hp, g, d, tk, os⟩ := s
    obtain ⟨hl, hb, h⟩ := h
    have f1 := idx_int
    have f2 := AutoSeq1.sub_tuple_tuple
    have f3 := AutoSeq1.sub_list_list
    have f4 := AutoSeq1.sub_tuple_list
    have f5 := AutoSeq1.sub_list_tuple
    have hz : (its ++ its2).size ≤ sizeLine + 1 := by rw [Array.size_append]; exact h2
    wp_walk using (wpAny_updateSeq hl rfl (hz := h1) (_hz' := hz)), AutoSeq1.wpAny_loadPart' hl, AutoSeq1.wpAny_loadPart' hb
    exact ⟨_, rfl, h⟩
def rExtT (K : PySem.W.Frag) : V → List V → Hp → VK → Prop := fun x vs H Q => ∃ l b xs zs, x = .ref l ∧ vs = [.ref b] ∧ H l = some (.lst xs) ∧ SqT K H b zs ∧ xs.length + zs.length ≤ sizeLine ∧ Q .non (upd H l (.lst (xs ++ zs)))
theorem mt_extT {X : Cx} (K : PySem.W.Frag) (hK : X.K = K) : MtM X "list.extend" (rExtT K) := by
  subst hK
  intro pins s σ H x vs v us Q I rx rv h
  obtain ⟨l, b, xs, zs, rfl, rfl, hH, hB, hz, q⟩ := h
  cases rx
  obtain ⟨u, rfl, ru⟩ := rv.one
  cases ru
  obtain ⟨z, its, n, r, hl, e⟩ := I.lstM hH
  obtain ⟨its2, r2, ⟨o2, e2, c2, n2, d2⟩, hz2⟩ := I.tuple hB
  have hl2 := r2.length
  obtain ⟨cc, dd, dt, sl⟩ := o2
  dsimp only at c2 d2
  subst c2 d2
  have hs : its.toArray.size + its2.toArray.size ≤ sizeLine := by simp only [List.size_toArray]; omega
  have hlong : ¬ (!its.toArray.isEmpty && Builtin.List.listTooLong (its.toArray.size + its2.toArray.size)) = true := by
    rw [notLongL hs, Bool.and_false]
    exact Bool.false_ne_true
  refine call_meets F.slot_list_extend ⟨_, e, rfl⟩ F.entry_list_extend (F.args_list_extend_2 _ _)
    (meets_extT l b its.toArray its2.toArray n n2 dd sl hlong (by simp only [List.size_toArray]; omega) (by omega)) ⟨e, e2, ?_⟩
  refine ⟨.non, _, I.lset (its' := its ++ its2) hH e (by simp) (r.append r2) ?_, rfl, q⟩
  simp only [List.length_append]
  omega
end ExtT
set_option Elab.async false
set_option linter.all false
set_option maxRecDepth 100000
set_option maxHeartbeats 4000000
/-! A def that lets nothing out, called in an except suite whatever is known of the exception: pinned there, nothing else. -/
namespace AnyF
open PySem PySem.Spec PyProof.Rows L2 L2H
/-- what such a def promises -/
structure FnA (P : Program) (w : World) (K : PySem.W.Frag) (mg : Str → Option Value) (base : Heap) (k : Nat) (f : Addr) (fd : FuncData) (ps : List Str) (sp : Sp) : Prop where
  len : ∀ vs H Q E, sp vs H Q E → vs.length = ps.length
  run : ∀ (A : Around) (outer : List Env) (s : Shared) (H : Hp) (args : Args) (us : List Value) (vs : List V) (Q : VK) (E : XK) (p : Addr × Obj), RoomH k A → PinOk outer H s p →
    Env0 P w K mg base A outer s H → BindsTo s fd args (ps.zip us) → Vals vs us → sp vs H Q E → codeAny (model P w) A (.call (.ref f) args) (CR CX0 outer P w H s Q E) s
section
variable {P : Program} {w : World} {K : PySem.W.Frag} {mg : Str → Option Value} {base : Heap} {x qual : Str} {st : Stmt} {f : Addr} {fd : FuncData} {N ps : List Str} {k : Nat} {sp : Sp}
theorem fnA_of (F : Fun K x qual st f fd) (S : FnScope N ps (defScope st)) (len : ∀ vs H Q E, sp vs H Q E → vs.length = ps.length)
    (hbody : ∀ (cd : Value) (A : Around) (outer : List Env) (s : Shared) (H : Hp) (vs : List V) (Q : VK) (E : XK) (p : Addr × Obj), RoomH k (A.deeper (envOfC qual (defScope st) s.heap.objs.size f cd)) → sp vs H Q E →
      ∃ t, PSs (cxH CX0 P w K mg base N qual (defScope st) f cd A outer s H E p) (defBody st) t ∧ t { nx := fun _ H' => Q .non H', rt := Q } (L2.start N vs) H) : FnA P w K mg base (k + 1) f fd ps sp := by
  obtain ⟨oc, od, kV, doc, pm, an, cd, ct, osl, efd, lk, hcode⟩ := F.ex
  subst efd
  constructor
  · exact len
  intro A outer s H args us vs Q E p room pin env bind vals hsp
  have inK : K.In s.heap := env.mod.kin.keeps (fun b o z => And.left (env.bs b o z))
  have free : s.heap.NoLimit := env.mod.nolimit.keeps (fun b o z => And.left (env.bs b o z))
  refine codeAny_call_function room.depth (inK _ _ lk) rfl S.co S.gen rfl (PySem.W.codeRec_of inK hcode) (bind _ _ _ _ ?bound)
  refine wpAny_newFunctionEnv_cells S.kind ?kinds ?body
  case kinds =>
    rintro ⟨n, v⟩ hy
    cases S.par n (List.of_mem_zip hy).1 with
    | inl q => exact Or.inl q
    | inr q => exact Or.inr ⟨q, PySem.W.cellsFrom_some _ _ _ (Or.inl q)⟩
  case body =>
    intro ev he s1 inCall
    subst he
    refine ⟨free.keeps inCall.toInCall.keep, codeAny_func ?inner⟩
    obtain ⟨t, derived, reading⟩ := hbody cd A outer s H vs Q E p (RoomH.deeper room _) hsp
    refine wpAny_mono (derived.run [] s1 (L2.start N vs) H _ (inv_startH S pin env (len _ _ _ _ hsp) vals inCall) reading) (fun fl s' hs => ?out) (fun _ _ z => z)
    match fl, hs with
    | .ret u, ⟨v, σ', H', J, rv, q⟩ => exact (⟨v, H', J.os, J.bare, J.base, J.hok, rv, q⟩ : CE outer P w H s Q u s')
    | .next, ⟨σ', H', J, q⟩ => exact (⟨V.non, H', J.os, J.bare, J.base, J.hok, rfl, q⟩ : CE outer P w H s Q Value.none s')
    | .brk, ⟨_, _, _, q⟩ => exact q.elim
    | .cont, ⟨_, _, _, q⟩ => exact q.elim
end
section
variable {X : Cx} {k : Nat} {f : Addr} {fd : FuncData} {ps : List Str} {sp : Sp} {x : Str} {q pos : Pos} {e : Expr} {es : List Expr} {t : TA}
/-- f(e, ..) where something is pinned -/
theorem pe_callA (F : FnA X.prog X.w X.K X.mg X.base k f fd ps sp) (room : RoomH k X.A) (pinned : ∃ p, p ∈ X.pn) (hg : Gl X x) (hm : X.mg x = some (.ref f)) (hk : PySem.W.keepIn X.K (.ref f) = true) (bs : Binds X.K fd ps [])
    (ha : PA X (e :: es) t) (hdb : (x == ("__debug__" : Str)) = false := by decide) (h1 : starEach (e :: es) X.env = (false, eval e X.env) :: starEach es X.env := by rfl) (h2 : (backTo pos (starEach es X.env)).any (·.1) = false := by rfl) :
    PE X (.Call (.Name x q) (e :: es) [] pos) (tCall sp [] E0 t) := by
  constructor
  intro pins s σ H Q I h
  refine wpAny_Call_Name_kw (ld_glob I hg hm ?_ hdb)
  refine PySem.W.callWith_K (h₀ := X.base) I.ok.mod.kin hk (thn (ha.run pos pins s σ H _ I h) ?_) h1 h2
  rintro us s1 ⟨vs, H1, J, r, z⟩
  rw [List.append_nil] at z
  refine ⟨J.kIn, ?_⟩
  obtain ⟨p, hp⟩ := pinned
  obtain ⟨p1, p2, p3, p4⟩ := J.pin p (List.mem_append_left _ hp)
  have same : us.length = ps.length := r.length.symm.trans (F.len _ _ _ _ z)
  have bound := bs s1 us J.kIn (by rw [List.append_nil]; exact same)
  rw [List.append_nil] at bound
  have pin : PinOk X.stack H1 s1 p := ⟨p1, p2, fun m => Or.elim (List.mem_cons.mp (J.stkSub p.1 m)) p3 p4.1, p4.2⟩
  refine wpAny_call (codeAny_mono (F.run X.A X.stack s1 H1 ⟨us, []⟩ us vs Q E0 p room pin J.env0 bound r z) (fun out s' w => ?_))
  match out, w with
  | .error _, w => exact w.elim
  | .ok (.ret u), w => exact J.after w
  | .ok .next, w => exact w.elim
  | .ok .brk, w => exact w.elim
  | .ok .cont, w => exact w.elim
end
end AnyF
set_option Elab.async false
set_option linter.all false
set_option maxRecDepth 100000
set_option maxHeartbeats 2000000
/-! isinstance of a held error that has fields. -/
namespace IsD
open PySem L2 PySem.Spec PyProof.Rows
def rIsE2 (K : PySem.W.Frag) (D a : Addr) (cls : Value) (d : Option Addr) : List V → Hp → VK → Prop := fun xs H Q => ∃ (c : V) (cv : Value) (b : Bool) (dd : Addr) (fs : List (Str × V)), xs = [.ref a, c] ∧ cls = .ref D ∧ d = some dd ∧ H dd = some (.xd fs) ∧ (∀ u, RelV c u → u = cv) ∧ PySem.W.kitOne K (.ref D) cv = some b ∧ Q (.bl b) H
def rIsET2 (K : PySem.W.Frag) (D a : Addr) (cls : Value) (d : Option Addr) : List V → Hp → VK → Prop := fun xs H Q => ∃ (tp : Addr) (cs : List V) (us : List Value) (b : Bool) (dd : Addr) (fs : List (Str × V)), xs = [.ref a, .ref tp] ∧ cls = .ref D ∧ d = some dd ∧ H dd = some (.xd fs) ∧ H tp = some (.tup cs) ∧ Paired ClsV cs us ∧ PySem.W.kitAny K (.ref D) us = some b ∧ Q (.bl b) H
section
variable {X : Cx} {a D : Addr} {oe : Obj} {pn : List (Addr × Obj)} {cls : Value} {d : Option Addr}
theorem kit_of {K : PySem.W.Frag} {x : Addr} {ox : Obj} {od : Option Obj} (C : ExcC K D) : PySem.W.KitX K (.ref x) (.ref D) (fun h => PySem.W.InstAt h x ox D od) := by
  have hcl : (PySem.W.clsIn K D).isSome = true := by
    obtain ⟨cd, hc, _⟩ := PySem.W.any_some C.hd
    rw [hc]; rfl
  exact PySem.W.kitx_exc hcl C.hg C.hk C.hs C.ha C.hn C.ht C.hm
theorem call_isE2 (C : ExcC X.K D) (hz : Zc cls d oe) (hf : ∃ vs, oe.data = .fields vs) : CallR (X.suite a ((a, oe) :: pn)) (.builtin "isinstance") (rIsE2 X.K D a cls d) := by
  intro pins s σ H xs us Q I r h
  obtain ⟨c, cv, b, dd, fs, rfl, rfl, rfl, ea, hcv, e, q⟩ := h
  cases r with
  | cons rx rr =>
    cases rr with
    | cons rt rr =>
      cases rr
      cases rx
      have ec := hcv _ rt
      subst ec
      obtain ⟨hget, _⟩ := I.pin (a, oe) (List.mem_append.mpr (.inl List.mem_cons_self))
      obtain ⟨vs, hd⟩ := hf
      have hx : ObjOk X.prog X.w H s.heap dd (.xd fs) := I.hok dd _ ea
      obtain ⟨mA, hns, hr⟩ := hx
      obtain ⟨od, ho, hl⟩ := lookIn_ns hns
      have J : PySem.W.InstAt s.heap a oe D (some od) := ⟨hget, hz.1, by unfold PySem.W.notCls; rw [hd] <;> rfl, by rw [hz.2]; exact ho⟩
      exact PySem.W.kia_one (kit_of C) I.kIn J e (fun z => nomatch z) fun tk => ⟨.bl b, H, I.kept (t' := tk) fun _ _ z => z, rfl, q⟩
theorem call_isET2 (C : ExcC X.K D) (hz : Zc cls d oe) (hf : ∃ vs, oe.data = .fields vs) : CallR (X.suite a ((a, oe) :: pn)) (.builtin "isinstance") (rIsET2 X.K D a cls d) := by
  intro pins s σ H xs us Q I r h
  obtain ⟨tp, cs, ws, b, dd, fs, rfl, rfl, rfl, ea, hT, k, e, q⟩ := h
  obtain ⟨u1, u2, rfl, r1, r2⟩ := vals2 r
  cases (show u1 = Value.ref a from r1)
  cases (show u2 = Value.ref tp from r2)
  obtain ⟨hget, _⟩ := I.pin (a, oe) (List.mem_append.mpr (.inl List.mem_cons_self))
  obtain ⟨vs, hd⟩ := hf
  have hx : ObjOk X.prog X.w H s.heap dd (.xd fs) := I.hok dd _ ea
  obtain ⟨mA, hns, hr⟩ := hx
  obtain ⟨od, ho, hl⟩ := lookIn_ns hns
  have J : PySem.W.InstAt s.heap a oe D (some od) := ⟨hget, hz.1, by unfold PySem.W.notCls; rw [hd] <;> rfl, by rw [hz.2]; exact ho⟩
  obtain ⟨_, its, rv, o, h1, h2, n, h3⟩ := (show ObjOk X.prog X.w H s.heap tp (.tup cs) from I.hok tp _ hT)
  have e3 := ClsV.all k rv
  subst e3
  obtain ⟨oc, od2, dt, sl⟩ := o
  simp only at h2 h3
  subst h2 h3
  exact PySem.W.kia_tup (kit_of C) I.kIn J h1 e (fun z => nomatch z) fun tk => ⟨.bl b, H, I.kept (t' := tk) fun _ _ z => z, rfl, q⟩
end
end IsD
set_option Elab.async false
set_option linter.all false
set_option maxRecDepth 100000
set_option maxHeartbeats 4000000
/-! tuple(d.values()). -/
namespace TupV
open PySem PySem.W PySem.Calls PyProof.Rows
section
variable {prog : Program} {w : World} {A : Around} {E : Value → Shared → Prop} {s : Shared} {T : String} {r d : Addr} {n : Nat} {P : Nat → Value → Prop} {OK : Heap → Prop}
theorem collect_kdl {Q : List Value → Shared → Prop} (K : KdlSrc prog w T r d n P OK) (hh : A.handled = none) (hok : OK s.heap) (hn : n ≤ sizeLine)
    (hQ : ∀ (h' : Heap) (tk : Nat) (acc : Array Value), (∀ b o, s.heap.get? b = some o → h'.get? b = some o) → ItemsOf P acc n → Q acc.toList { s with heap := h', toks := tk }) :
    wpAny (model prog w) A (collect (.ref r)) Q E s := by
  unfold collect
  refine wpAny_bind (wpAny_runValue (codeAny_builtin F.entry_proto_collect ?_))
  rw [Around.under_plainId F.plain_proto_collect _]
  show wpAny _ A.in1 (newList [] >>= fun l => again (.builtin "list.__iadd__" ⟨[l, .ref r], []⟩)) _ _ s
  refine wpAny_bind (wpAny_newObj_type ?_)
  refine wpAny_pure ⟨plainId_quiet F.plain_list_iadd _, codeAny_builtin F.entry_list_iadd ?_⟩
  rw [Around.under_plainId F.plain_list_iadd _]
  show wpAny _ A.in1 (Builtin.List.listExtendWith (.ref s.heap.objs.size) (.ref r) (.ref s.heap.objs.size)) _ _ _
  have hS : (s.heap.push { cls := .type "list", data := .seq ([] : List Value).toArray }).get? s.heap.objs.size = some { cls := .type "list", data := .seq #[] 0 } := Heap.get?_push_size _ rfl
  obtain ⟨t1, t2⟩ := K.there _ hok
  have hok1 : OK (s.heap.push { cls := .type "list", data := .seq ([] : List Value).toArray }) := K.keep _ _ hok fun b _ o q => Heap.get?_push_of_some _ q
  refine wpAny_mono (kdl_extend (A := A) (R := fun rr s' => rr = .ok (.ret (.ref s.heap.objs.size)) ∧ ∃ (h' : Heap) (tk : Nat) (acc : Array Value) (c' : Nat), s' = { s with heap := h', toks := tk } ∧
      (∀ b o, s.heap.get? b = some o → h'.get? b = some o) ∧ h'.get? s.heap.objs.size = some { cls := .type "list", dict := none, data := .seq acc c', slots := #[] } ∧ ItemsOf P acc n)
    (s := { s with heap := s.heap.push { cls := .type "list", data := .seq ([] : List Value).toArray } }) K hh hok1 s.heap.objs.size (Nat.ne_of_gt t1) (Nat.ne_of_gt t2) _ 0 hS
    (fun h' tk acc c' hk e hi => ⟨rfl, h', tk, acc, c', rfl, fun b o q => hk b o (Nat.ne_of_lt (Heap.lt_size q)) (Heap.get?_push_of_some _ q), e, hi⟩) hn) (fun fin s' h => ?_) (fun e s' h => ?_)
  · cases fin with
    | done f =>
      obtain ⟨e, h', tk, acc, c', rfl, hk, hS', hi⟩ := h
      cases e
      show wpAny _ A (load s.heap.objs.size >>= _) _ _ _
      exact wpAny_bind (wpAny_load hS' (wpAny_pure (hQ h' tk acc hk hi)))
    | again c' =>
      refine ⟨h.1, codeAny_mono h.2 fun rr s'' hr' => ?_⟩
      obtain ⟨rfl, h', tk, acc, c', rfl, hk, hS', hi⟩ := hr'
      show wpAny _ A (load s.heap.objs.size >>= _) _ _ _
      exact wpAny_bind (wpAny_load hS' (wpAny_pure (hQ h' tk acc hk hi)))
  · exact absurd h.1 (by simp)
theorem code_tuple_new_kdl {Q₁ : Value → Shared → Prop} (K : KdlSrc prog w T r d n P OK) (hh : A.handled = none) (hok : OK s.heap) (hn : n ≤ sizeLine) (hT : T = "dict_values")
    (h : ∀ (h' : Heap) (tk : Nat) (acc : Array Value), (∀ b o, s.heap.get? b = some o → h'.get? b = some o) → ItemsOf P acc n →
      Q₁ (.ref h'.objs.size) { s with heap := h'.push { cls := .type "tuple", data := .seq acc }, toks := tk }) :
    codeAny (model prog w) A (.call (.builtin "tuple.__new__") ⟨[.type "tuple", .ref r], []⟩) (wants Q₁ E) s := by
  subst hT
  refine codeAny_of_tree ?_
  show wpAny _ A.in1 (do checkBuiltinCall "tuple.__new__" ⟨[.type "tuple", .ref r], []⟩; again (.builtin "tuple.__new__" ⟨[.type "tuple", .ref r], []⟩)) _ _ s
  refine wpAny_bind (wpAny_of_eq (F.newCall_tuple_1 _) (wpAny_pure ⟨plainId_quiet F.plain_tuple_new _, codeAny_builtin F.entry_tuple_new ?_⟩))
  rw [Around.under_plainId F.plain_tuple_new _]
  have hsub := sub_tuple_self
  have hinit := init_tuple_lookup
  have hmh := madeHere_tuple
  have hTI : s.TypeIs (.ref r) "dict_values" := K.type s hok
  have hh1 : A.in1.handled = none := hh
  wp_walk using wpAny_typeOf hTI, collect_kdl (A := A.in1) K hh1 hok hn
  intro h' tk acc hk hacc
  show wpAny _ _ (Builtin.Tuple.tupleExact acc.toList.toArray >>= fun v => ret v) _ _ _
  unfold Builtin.Tuple.tupleExact
  refine wpAny_bind (wpAny_newObj_type ?_ (by show acc.toList.toArray.size ≤ sizeLine; simp only [Array.toArray_toList]; rw [hacc.1]; exact hn))
  refine wpAny_pure ?_
  have e : acc.toList.toArray = acc := by simp
  rw [e]
  exact h h' tk acc hk hacc
theorem call_tuple_kdl {Q : Value → Shared → Prop} (K : KdlSrc prog w "dict_values" r d n P OK) (hh : A.handled = none) (hok : OK s.heap) (hn : n ≤ sizeLine)
    (hQ : ∀ (h' : Heap) (tk : Nat) (acc : Array Value), (∀ b o, s.heap.get? b = some o → h'.get? b = some o) → ItemsOf P acc n →
      Q (.ref h'.objs.size) { s with heap := h'.push { cls := .type "tuple", data := .seq acc }, toks := tk }) :
    wpAny (model prog w) A (call (.type "tuple") [.ref r]) Q E s := by
  refine callType_codes (Q₁ := fun obj s₁ => s₁.TypeIs obj "tuple" ∧ Q obj s₁) F.called_tuple (F.typeCall_tuple_1 _) F.entry_object_init
    (code_tuple_new_kdl (A := A.in1) K hh hok hn rfl fun h' tk acc hk hacc => ⟨⟨_, Heap.get?_push_size _ rfl, rfl⟩, hQ h' tk acc hk hacc⟩) fun obj s₁ h₁ => ?_
  exact ⟨h₁.1, F.args_object_init_2 obj _, object_init_meets F.called_tuple.init.lookup F.called_tuple.made (by decide) prog w A.in1 _ s₁ ⟨h₁.1, rfl, h₁.2⟩⟩
end
end TupV
namespace TupV
open PySem PySem.W PySem.Calls PyProof.Rows L2
theorem same_new_ {H : Hp} {p : Addr} (h : H p = none) (o : HO) : Same H (upd H p o) := fun b u q => by rw [upd_ne (ne_of_none q h)]; exact q
theorem vals_of {kvs : List (Key × V)} {vs : List (Key × Value)} (r : KV kvs vs) {acc : List Value} (hl : acc.length = vs.length) (h : ∀ (i : Nat) (v : Value), acc[i]? = some v → ∃ k : Key, vs[i]? = some (k, v)) : Vals (kvs.map (·.2)) acc := by
  have hk := KV.length r
  have e : acc = vs.map (·.2) := by
    apply List.ext_getElem?
    intro i
    rw [List.getElem?_map]
    cases ei : acc[i]? with
    | some v =>
      obtain ⟨k, hk⟩ := h i v ei
      rw [hk]; rfl
    | none =>
      rw [List.getElem?_eq_none (by have := List.getElem?_eq_none_iff.mp ei; omega)]
      rfl
  rw [e]
  clear e h hl hk
  unfold KV at r
  induction r with
  | nil => exact .nil
  | cons h t ih => exact .cons h.2 ih
section
variable {X : Cx} {o : Expr} {p pos apos mpos : Pos} {td : TE}
def tTupVals (td : TE) : TE := fun σ H Q => td σ H fun x H1 => ∃ a kvs, x = V.ref a ∧ H1 a = some (.dK kvs) ∧ ∀ q H', Same H1 H' → H1 q = none → H' q = some (.tup (kvs.map (·.2))) → Q (.ref q) H'
theorem pe_tupVals (hc : X.calm = true) (hg : Gl X "tuple") (hm : X.mg "tuple" = none) (hd : PE X o td) (hbase : attributeBase o "values" X.env (eval o X.env) = eval o X.env := by rfl) (hline : (apos.endLine == mpos.line) = true := by rfl)
    (hse : starEach [Expr.Call (.Attribute o "values" apos) [] [] mpos] X.env = (false, eval (Expr.Call (.Attribute o "values" apos) [] [] mpos) X.env) :: starEach [] X.env := by rfl) :
    PE X (.Call (.Name "tuple" p) [.Call (.Attribute o "values" apos) [] [] mpos] [] pos) (tTupVals td) := by
  refine ⟨fun pins s σ H Q I h => ?_⟩
  refine Call_ (ld_blt I hg hm boot_tuple (PyProof.Rows.callWith_type1 (args_cons (wpAny_Call_method0_late hbase hline (thn (hd.run pins s σ H _ I h) fun v s1 ⟨x, H1, I1, r1, a, kvs, ex, ha, q⟩ => ?_)) hse) hse))
  subst ex
  obtain rfl : v = Value.ref a := r1
  obtain ⟨hz, hsys, vs, rel, dof⟩ := dk_of I1.hok ha
  obtain ⟨ep, dat⟩ := dof.dictAt
  have dat' := dat
  obtain ⟨ob, es, ho, ex, hdat, hko, hpr, hnd⟩ := dat'
  refine ⟨"dict", "dict.values", F.plainAttrs_dict, F.slot_dict_values, F.type_dict_values, ⟨ob, ho, ex.1⟩, fun b e => ?_, Calls.callWith_builtin rfl (PySem.evalArgs_none ?_)⟩
  · cases e
    exact ⟨ob, ho, ex.2.1⟩
  refine call_meetsIn F.slot_dict_values ⟨ob, ho, ex.1⟩ F.entry_dict_values (F.args_dict_values_1 _) (meets_dict_values (mixKind X.prog X.w) a hsys) ⟨⟨vs, dof⟩, ?_⟩
  have k1 : ∀ b u, s1.heap.get? b = some u → (s1.heap.push { cls := .type "dict_values", data := .fields #[.ref a] }).get? b = some u := fun b u e => Heap.get?_push_of_some _ e
  have dat1 : (s1.heap.push { cls := .type "dict_values", data := .fields #[.ref a] }).DictAt (mixKind X.prog X.w) a vs ep := dat.keep k1
  have hlen : vs.length = kvs.length := (KV.length rel).symm
  refine args_nil ?_
  refine call_tuple_kdl (s := { s1 with heap := s1.heap.push { cls := .type "dict_values", data := .fields #[.ref a] } }) (kdl_values (knd := mixKind X.prog X.w) (r := s1.heap.objs.size) (d := a) (kvs := vs) (ep := ep)) (I.ok.hd hc) ⟨⟨_, Heap.get?_push_size _ rfl, rfl, rfl⟩, dat1⟩ (by rw [hlen]; exact hz) fun h' tk acc hk hacc => ?_
  have I2 : Inv X pins σ H1 { s1 with heap := h', toks := tk } := I1.kept (t' := tk) fun b u e => hk b u (k1 b u e)
  have rv : Vals (kvs.map (·.2)) acc.toList := vals_of rel (by rw [Array.length_toList, hacc.1]) fun i v e => hacc.2 i v (by rw [← Array.getElem?_toList]; exact e)
  have I3 : Inv X pins σ (upd H1 h'.objs.size (.tup (kvs.map (·.2)))) { s1 with heap := h'.push { cls := .type "tuple", data := .seq acc }, toks := tk } :=
    I2.laid (t' := tk) (fun b o e => Heap.get?_push_of_some _ e) (Nat.le_refl _) (show ObjOk X.prog X.w _ _ _ (.tup (kvs.map (·.2))) from ⟨by rw [List.length_map]; exact hz, acc.toList, rv, by have := IsTup.new h' acc; simpa using this⟩)
  exact ⟨.ref h'.objs.size, _, I3, rfl, q _ _ (same_new_ (I2.hok.fresh (Nat.le_refl _)) _) (I2.hok.fresh (Nat.le_refl _)) upd_same⟩
end
end TupV
set_option Elab.async false
set_option linter.all false
set_option maxRecDepth 100000
set_option maxHeartbeats 2000000
/-! xs[::1] and xs[::-1] of a list. -/
namespace SlStep
open PySem PySem.W PySem.Calls PyProof.Rows L2
theorem pick_one (items : Array Value) : slicePick items none none (some 1) = items.toList.toArray := by
  have h := slicePick_cut items.toList none none
  rw [show items.toList.toArray = items from rfl] at h ⊢
  have e : slicePick items none none (some 1) = slicePick items none none none := rfl
  rw [e, h]
  simp [HT.sIx, List.take_of_length_le (show items.toList.length ≤ items.size from Nat.le_of_eq Array.length_toList)]
def tSlS (K : PySem.W.Frag) (te ts : TE) : TE := fun σ H Q => te σ H fun x H1 => ts σ H1 fun y H2 => ∃ i, y = .int i ∧ (i = 1 ∨ i = -1) ∧ ∃ a xs, x = .ref a ∧ SqL K H2 a xs ∧ ∀ p, H2 p = none → Q (.ref p) (upd H2 p (.lst (if i = 1 then xs else xs.reverse)))
section
variable {X : Cx} {e st : Expr} {te ts : TE} {pos p2 : Pos}
theorem vals_rev {xs : List V} {us : List Value} (r : Vals xs us) : Vals xs.reverse us.reverse := by
  induction r with
  | nil => exact .nil
  | cons h t ih =>
    rw [List.reverse_cons, List.reverse_cons]
    exact ih.append (.cons h .nil)
theorem pe_sliceS (K : PySem.W.Frag) (hK : X.K = K) (he : PE X e te) (hs : PE X st ts) : PE X (.Subscript e (.Slice none none (some st) p2) pos) (tSlS K te ts) := by
  subst hK
  refine ⟨fun pins s σ H Q I h => ?_⟩
  refine Subscript_ (thn (he.run pins s σ H _ I h) fun v s1 ⟨x, H1, I1, r1, q1⟩ => ?_)
  refine wpAny_Slice ?_
  rw [evalPart_none]
  refine wpAny_pure (wpAny_pure ?_)
  rw [evalPart_some]
  refine thn (hs.run pins s1 σ H1 _ I1 q1) fun vk s3 ⟨y, H3, I3, ry, q3⟩ => ?_
  obtain ⟨i, rfl, hi, a, xs, rfl, hx, q⟩ := q3
  obtain ⟨t, rfl⟩ := ry
  have I4 : Inv X pins σ H3 { s3 with heap := s3.heap.push { cls := .type "slice", data := .fields #[.none, .none, .int i t] } } := I3.kept (t' := s3.toks) fun b ob q => Heap.get?_push_of_some _ q
  show wpAny (model X.prog X.w) X.A (subscriptTail e (.Slice none none (some st) p2) v (.ref s3.heap.objs.size)) (EP X pins σ Q) X.xe { s3 with heap := s3.heap.push { cls := .type "slice", data := .fields #[.none, .none, .int i t] } }
  cases r1
  obtain ⟨its, r, ht, hz⟩ := I4.list hx
  have hlen := r.length
  refine tail_any (ops := [.ref a, .ref s3.heap.objs.size]) (ht.isList.typeIs) (slot_list_getitem.lookup) ?_ (by with_unfolding_all rfl)
  refine wpAny_getItem_list_slice ht.isList (Heap.IsSliceOf.new ..) .none .none (.int i t) (by rcases hi with rfl | rfl <;> decide) ?_ (by rw [List.size_toArray] <;> omega)
  have ep : slicePick its.toArray none none (some i) = (if i = 1 then its else its.reverse).toArray := by
    rcases hi with rfl | rfl
    · rw [pick_one, if_pos rfl]
    · rw [krv_pick, if_neg (by decide)]
  rw [ep]
  refine ⟨.ref _, _, I4.laid (t' := s3.toks) (o := .lst (if i = 1 then xs else xs.reverse)) (fun b ob q => Heap.get?_push_of_some _ q) (Nat.le_refl _) ?_, rfl, q _ (I4.hok.fresh (Nat.le_refl _))⟩
  refine ⟨?_, (if i = 1 then its else its.reverse), 0, ?_, Heap.get?_push_size _ rfl⟩
  · split
    · omega
    · rw [List.length_reverse]; omega
  · split
    · exact r
    · exact vals_rev r
end
end SlStep
set_option Elab.async false
set_option linter.all false
set_option maxRecDepth 100000
set_option maxHeartbeats 4000000
/-! A lambda with parameters and captured names, as a value that other defs get and call. What it needs is locked in the abstract heap: its own object, and, while a def runs that got it, the cells of the frame that made it. -/
namespace LamP
open PySem PySem.Spec PyProof.Rows L2 LamX NdefX
/-! ### locked objects -/
def Lk (o : Obj) (a : Addr) : HO := .frz o (.ext fun h => h.get? a = some o)
/-- all but tables of code and locked things stands -/
def Most (H H' : Hp) : Prop := ∀ b o, H b = some o → (∀ ob u, o ≠ .frz ob (.ext u)) → H' b = some o
theorem Most.refl (H : Hp) : Most H H := fun _ _ e _ => e
theorem Most.of {H H' : Hp} (s : Same H H') : Most H H' := fun b o e _ => s b o e
section
variable {P : Program} {w : World} {H H' : Hp} {h h' : Heap} {o : Obj} {a : Addr} {L : List Addr} {fs : List Addr}
theorem lk_ok (e : h.get? a = some o) : ObjOk P w H h a (Lk o a) := ⟨e, e, ⟨o, e⟩, fun _ _ q st => st _ q⟩
theorem lk_at (hok : HOk P w H h) (e : H a = some (Lk o a)) : h.get? a = some o := by
  have z := hok a _ e
  exact z.1
theorem lk_own {b : Addr} : Lk o a ≠ .own b := fun z => by
  unfold Lk at z
  cases z
theorem lk_tup {xs : List V} : Lk o a ≠ .tup xs := fun z => by
  unfold Lk at z
  cases z
theorem lk_tbl {ps : Array Value} : Lk o a ≠ .tbl ps := fun z => by
  unfold Lk at z
  cases z
def drp (L : List Addr) (H : Hp) : Hp := fun a => if a ∈ L then none else H a
def bck (L : List Addr) (H H' : Hp) : Hp := fun a => if a ∈ L then H a else H' a
def lkd (L : List Addr) (h : Heap) (H : Hp) : Hp := fun a => if a ∈ L then (h.get? a).map (fun o => Lk o a) else H a
theorem drp_in (ha : a ∈ L) : drp L H a = none := by
  unfold drp
  rw [if_pos ha]
theorem drp_out (ha : a ∉ L) : drp L H a = H a := by
  unfold drp
  rw [if_neg ha]
theorem bck_in (ha : a ∈ L) : bck L H H' a = H a := by
  unfold bck
  rw [if_pos ha]
theorem bck_out (ha : a ∉ L) : bck L H H' a = H' a := by
  unfold bck
  rw [if_neg ha]
theorem lkd_in (ha : a ∈ L) (e : h.get? a = some o) : lkd L h H a = some (Lk o a) := by
  unfold lkd
  rw [if_pos ha, e]
  all_goals rfl
theorem lkd_out (ha : a ∉ L) : lkd L h H a = H a := by
  unfold lkd
  rw [if_neg ha]
theorem drp_some {u : HO} (e : drp L H a = some u) : a ∉ L ∧ H a = some u := by
  by_cases ha : a ∈ L
  · rw [drp_in ha] at e
    cases e
  · rw [drp_out ha] at e
    exact ⟨ha, e⟩
theorem hok_drp (hok : HOk P w H h) (hL : ∀ a ∈ L, ∃ o, H a = some (Lk o a)) : HOk P w (drp L H) h := fun a u e => by
  obtain ⟨_, e1⟩ := drp_some e
  have out : ∀ b v, H b = some v → (∀ ob, v ≠ Lk ob b) → drp L H b = some v := fun b v q n => by
    rw [drp_out]
    · exact q
    · intro z
      obtain ⟨ob, e2⟩ := hL b z
      rw [q] at e2
      exact n ob (Option.some.inj e2)
  exact (hok a u e1).stay (fun _ _ _ q => q) (fun b q => out b _ q fun _ z => lk_own z.symm) fun b xs q => out b _ q fun _ z => lk_tup z.symm
theorem hok_lkd (hok : HOk P w H h) (hn : ∀ a ∈ L, H a = none) : HOk P w (lkd L h H) h := fun a u e => by
  have out : ∀ b v, H b = some v → lkd L h H b = some v := fun b v q => by
    rw [lkd_out]
    · exact q
    · intro z
      rw [hn b z] at q
      cases q
  by_cases ha : a ∈ L
  · unfold lkd at e
    rw [if_pos ha] at e
    cases q : h.get? a with
    | none =>
      rw [q] at e
      cases e
    | some ob =>
      rw [q] at e
      have e := (Option.some.inj e).symm
      subst e
      exact lk_ok q
  · rw [lkd_out ha] at e
    exact (hok a u e).stay (fun _ _ _ q => q) (fun b q => out b _ q) fun b xs q => out b _ q
/-- behind a call that ran with the lock: without it -/
theorem un_lkd (hn : ∀ a ∈ L, H a = none) (ex : ∀ a ∈ L, ∃ o, h.get? a = some o) (u : Un fs [] (lkd L h H) H' h h') (hok : HOk P w H' h') :
    (∀ a ∈ L, ∃ o, H' a = some (Lk o a)) ∧ Un fs [] H (drp L H') h h' := by
  have lk : ∀ a ∈ L, ∀ o, h.get? a = some o → H' a = some (Lk o a) := fun a ha o e => u.frzs a o _ (lkd_in ha e)
  have kp : ∀ a ∈ L, ∀ o, h.get? a = some o → h'.get? a = some o := fun a ha o e => lk_at hok (lk a ha o e)
  have notin : ∀ b v, H b = some v → b ∉ L := fun b v q z => by
    rw [hn b z] at q
    cases q
  refine ⟨fun a ha => ?_, fun b o e n hb hx => ?_, fun b o e n hb hx => ?_, fun b o e n hx => ?_, fun b o e hx => u.there b o e hx, fun b xs q => ?_, fun b ob v q => ?_, fun b ps q => ?_⟩
  · obtain ⟨o, e⟩ := ex a ha
    exact ⟨o, lk a ha o e⟩
  · by_cases ha : b ∈ L
    · exact kp b ha o e
    · exact u.keep b o e (by rw [lkd_out ha]; exact n) hb hx
  · by_cases ha : b ∈ L
    · exact ⟨o.slots, kp b ha o e⟩
    · exact u.slot b o e (by rw [lkd_out ha]; exact n) hb hx
  · by_cases ha : b ∈ L
    · exact drp_in ha
    · rw [drp_out ha]
      exact u.free b o e (by rw [lkd_out ha]; exact n) hx
  · have ha := notin b _ q
    rw [drp_out ha]
    exact u.tups b xs (by rw [lkd_out ha]; exact q)
  · have ha := notin b _ q
    rw [drp_out ha]
    exact u.frzs b ob v (by rw [lkd_out ha]; exact q)
  · have ha := notin b _ q
    rw [drp_out ha]
    exact u.tbls b ps (by rw [lkd_out ha]; exact q)
/-- behind a body that ran without the lock: with it -/
theorem un_bck (hL : ∀ a ∈ L, ∃ o, H a = some (Lk o a)) (hf : ∀ b ∈ fs, H b = none) (hok : HOk P w H h) (u : Un fs [] (drp L H) H' h h') (hok' : HOk P w H' h') :
    (∀ a ∈ L, H' a = none) ∧ Un fs [] H (bck L H H') h h' ∧ HOk P w (bck L H H') h' := by
  have nf : ∀ a ∈ L, a ∉ fs := fun a ha z => by
    obtain ⟨o, e⟩ := hL a ha
    rw [hf a z] at e
    cases e
  have n' : ∀ a ∈ L, H' a = none := fun a ha => by
    obtain ⟨o, e⟩ := hL a ha
    exact u.free a o (lk_at hok e) (drp_in ha) (by simp)
  have notin : ∀ b v, H b = some v → (∀ ob, v ≠ Lk ob b) → b ∉ L := fun b v q n z => by
    obtain ⟨ob, e⟩ := hL b z
    rw [q] at e
    exact n ob (Option.some.inj e)
  have notin' : ∀ b v, H' b = some v → b ∉ L := fun b v q z => by
    rw [n' b z] at q
    cases q
  have nnone : ∀ b, H b = none → b ∉ L := fun b n z => by
    obtain ⟨ob, e⟩ := hL b z
    rw [n] at e
    cases e
  refine ⟨n', ⟨fun b o e n hb hx => u.keep b o e (by rw [drp_out (nnone b n)]; exact n) hb hx, fun b o e n hb hx => u.slot b o e (by rw [drp_out (nnone b n)]; exact n) hb hx, fun b o e n hx => ?_, fun b o e hx => u.there b o e hx, fun b xs q => ?_, fun b ob v q => ?_, fun b ps q => ?_⟩, fun a v e => ?_⟩
  · rw [bck_out (nnone b n)]
    exact u.free b o e (by rw [drp_out (nnone b n)]; exact n) hx
  · have ha := notin b _ q fun _ z => lk_tup z.symm
    rw [bck_out ha]
    exact u.tups b xs (by rw [drp_out ha]; exact q)
  · by_cases ha : b ∈ L
    · rw [bck_in ha]
      exact q
    · rw [bck_out ha]
      exact u.frzs b ob v (by rw [drp_out ha]; exact q)
  · have ha := notin b _ q fun _ z => lk_tbl z.symm
    rw [bck_out ha]
    exact u.tbls b ps (by rw [drp_out ha]; exact q)
  · by_cases ha : a ∈ L
    · rw [bck_in ha] at e
      obtain ⟨o, e1⟩ := hL a ha
      rw [e] at e1
      have e1 := Option.some.inj e1
      subst e1
      exact lk_ok (u.keep a o (lk_at hok e) (drp_in ha) (nf a ha) (by simp))
    · rw [bck_out ha] at e
      have out : ∀ b v, H' b = some v → bck L H H' b = some v := fun b v q => by
        rw [bck_out (notin' b v q)]
        exact q
      exact (hok' a v e).stay (fun _ _ _ q => q) (fun b q => out b _ q) fun b xs q => out b _ q
theorem most_drp (hL : ∀ a ∈ L, ∃ o, H a = some (Lk o a)) : Most H (drp L H) := fun b v q n => by
  rw [drp_out]
  · exact q
  · intro z
    obtain ⟨ob, e⟩ := hL b z
    rw [q] at e
    exact n ob _ (Option.some.inj e)
end
/-! ### the function object -/
structure LS where
  qual : Str
  params : Arguments
  body : Expr
  scope : Scope
abbrev LS.obj (L : LS) (cl : List (Str × Addr)) (pm : Value) (c : Addr) (ctv : Value) : Obj := PySem.W.kla_obj "<lambda>" L.qual L.params L.body L.scope cl pm c ctv
/-- the words of a lambda as it stands in the text -/
def LS.of (e : Expr) (q : Str) : LS := match e with
  | .Lambda p b s _ => ⟨q, p, b, s⟩
  | _ => ⟨q, default, e, default⟩
def FnL (H : Hp) (f : Addr) (cl : List (Str × Addr)) (L : LS) : Prop := ∃ (c : Addr) (pm ctv : Value), H f = some (Lk (L.obj cl pm c ctv) f) ∧ H c = some (CodeO c L.qual)
structure CellL (H : Hp) (cl : List (Str × Addr)) (fr : List Str) (ws : List V) : Prop where
  len : ws.length = fr.length
  inj : ∀ x y c, cl.lookup x = some c → cl.lookup y = some c → x = y
  all : ∀ y c, cl.lookup y = some c → y ∈ fr
  at_ : ∀ (i : Nat) (y : Str), fr[i]? = some y → ∃ c v o u, cl.lookup y = some c ∧ ws[i]? = some v ∧ L2.RelV v u ∧ o.data = .cell (some u) ∧ H c = some (Lk o c)
def LamAt (H : Hp) (f : Addr) (L : LS) (fr : List Str) (ws : List V) : Prop := ∃ cl, FnL H f cl L ∧ CellL H cl fr ws
theorem FnL.mono {H H' : Hp} {f : Addr} {cl : List (Str × Addr)} {L : LS} (m : Same H H') (h : FnL H f cl L) : FnL H' f cl L := by
  obtain ⟨c, pm, ctv, h1, h2⟩ := h
  exact ⟨c, pm, ctv, m _ _ h1, m _ _ h2⟩
theorem CellL.mono {H H' : Hp} {cl : List (Str × Addr)} {fr : List Str} {ws : List V} (m : Same H H') (h : CellL H cl fr ws) : CellL H' cl fr ws := by
  refine ⟨h.len, h.inj, h.all, fun i y e => ?_⟩
  obtain ⟨c, v, o, u, h1, h2, h3, h4, h5⟩ := h.at_ i y e
  exact ⟨c, v, o, u, h1, h2, h3, h4, m _ _ h5⟩
theorem LamAt.mono {H H' : Hp} {f : Addr} {L : LS} {fr : List Str} {ws : List V} (m : Same H H') (h : LamAt H f L fr ws) : LamAt H' f L fr ws := by
  obtain ⟨cl, h1, h2⟩ := h
  exact ⟨cl, h1.mono m, h2.mono m⟩
theorem TabsN.most {T : List NTab} {H H' : Hp} (t : TabsN T H) (m : Most H H') : TabsN T H' := fun p hp => by
  obtain ⟨ps, h1, h2, h3⟩ := t p hp
  refine ⟨ps, m _ _ h1 fun _ _ z => (by cases z), h2, fun pos cv hc => ?_⟩
  obtain ⟨c, e1, e2⟩ := h3 pos cv hc
  exact ⟨c, e1, m _ _ e2 fun _ _ z => (by unfold CodeO at z; cases z)⟩
/-! ### it is made -/
section
variable {X : Cx} {pins : List (Addr × Obj)} {σ : L2.St} {H : Hp} {s : Shared}
theorem inv_lam {o : Obj} {t' : Nat} (I : Inv X pins σ H s) (ho : o.isFreed = false) : Inv X pins σ (upd H s.heap.objs.size (Lk o s.heap.objs.size)) { s with heap := s.heap.push o, toks := t' } :=
  I.laid (a := s.heap.objs.size) (fun b u e => Heap.get?_push_of_some _ e) (Nat.le_refl _) (lk_ok (Heap.get?_push_size _ ho))
theorem make_lam {T : List NTab} {nm : Nat → Nat → Str} {c P : Addr} {params : Arguments} {body : Expr} {scope : Scope} {pos : Pos} {E Q : Value → Shared → Prop} (I : Inv X pins σ H s) (TB : TabB X.base X.mg c P) (hcode : X.env.code = .ref c)
    (hm : (P, nm) ∈ T) (hn : nm pos.line pos.col = X.env.qual ++ "<lambda>") (hu : ∀ p ∈ T, p.1 = P → p.2 = nm) (hT : TabsN T H) (hdef : defaultsOf params X.env = ([], [])) (hfree : ∀ y ∈ scope.names, y.2 = .free → ∃ c, X.env.cells.lookup y.1 = some c)
    (h : ∀ (f : Addr) (H1 : Hp) (s' : Shared), Inv X pins σ H1 s' → ExtN H H1 → TabsN T H1 → FnL H1 f (cloFrom X.env.cells scope.names []) ⟨X.env.qual ++ "<lambda>", params, body, scope⟩ → Q (.ref f) s') :
    wpAny (model X.prog X.w) X.A (eval (.Lambda params body scope pos) X.env) Q E s := by
  obtain ⟨ps, hP, ht, ha⟩ := (show TabN H P nm from hT _ hm)
  refine PySem.W.kla_eval hdef ?_
  have bP := TB.bm.keeps I.bk
  have hP' : s.heap.get? P = some { cls := .none, data := .fields ps } := I.hok P _ hP
  cases hc : codeAmong pos ps.toList with
  | none =>
    refine PySem.W.kla_makeFunction (closure_ok hfree) I.ok.glob (I.mod.glob.keeps I.bk) hcode (TB.code.keeps I.bk) hP' ht hc TB.gP bP fun c' ctv h' tk hx hge hlt hrec htb => ?_
    obtain ⟨c2, oc, vs, t, e2, hoc, hd, hv⟩ := hrec
    cases e2
    have nC : H c' = none := I.hok.fresh hge
    have I1 := inv_table (t' := tk) (more := #[rawInt pos.line, rawInt pos.col, .ref c']) (h' := h') I hP (fun b o hb e => hx b o hb e) htb hge ⟨oc, vs, t, hoc, hd, hv⟩
    obtain ⟨HT, eHT⟩ : ∃ HT, HT = upd (upd H P (.tbl (ps ++ #[rawInt pos.line, rawInt pos.col, .ref c']))) c' (CodeO c' (X.env.qual ++ "<lambda>")) := ⟨_, rfl⟩
    rw [← eHT] at I1
    have hE : ExtN H HT := fun b o e n => by
      rw [eHT, upd_ne (ne_of_none e nC), upd_ne (fun z => n ps (Option.some.inj (e.symm.trans (by rw [z]; exact hP))))]
      exact e
    have eC : HT c' = some (CodeO c' (X.env.qual ++ "<lambda>")) := by rw [eHT, upd_same]
    have eL : (ps ++ #[rawInt pos.line, rawInt pos.col, .ref c']).toList = ps.toList ++ [rawInt pos.line, rawInt pos.col, .ref c'] := by simp
    have T1 : TabsN T HT := fun p hp => by
      by_cases hb : p.1 = P
      · rw [hu p hp hb, hb]
        refine ⟨ps ++ #[rawInt pos.line, rawInt pos.col, .ref c'], by rw [eHT, upd_ne (ne_of_none hP nC), upd_same], by rw [eL]; exact PySem.TriplesOk_snoc _ _ _ _ ht, fun p' cv hcv => ?_⟩
        rw [eL] at hcv
        rcases among_app2 _ ht hcv with z | ⟨z, z1, z2⟩
        · obtain ⟨c0, e1, e2⟩ := ha p' cv z
          exact ⟨c0, e1, hE _ _ e2 codeO_ne⟩
        · refine ⟨c', z, ?_⟩
          rw [← z1, ← z2, hn]
          exact eC
      · obtain ⟨ps', a1, a2, a3⟩ := hT p hp
        refine ⟨ps', by rw [eHT, upd_ne (ne_of_none a1 nC), upd_ne hb]; exact a1, a2, fun p' cv hcv => ?_⟩
        obtain ⟨c0, e1, e2⟩ := a3 p' cv hcv
        exact ⟨c0, e1, hE _ _ e2 codeO_ne⟩
    have nF := I1.hok.fresh (Nat.le_refl _)
    have I2 := inv_lam (t' := tk) (o := LS.obj ⟨X.env.qual ++ "<lambda>", params, body, scope⟩ (cloFrom X.env.cells scope.names []) ((X.mg "__name__").getD .none) c' ctv) I1 rfl
    have up : ∀ b o, HT b = some o → upd HT h'.objs.size (Lk (LS.obj ⟨X.env.qual ++ "<lambda>", params, body, scope⟩ (cloFrom X.env.cells scope.names []) ((X.mg "__name__").getD .none) c' ctv) h'.objs.size) b = some o := fun b o e => (upd_ne (ne_of_none e nF)).trans e
    exact h h'.objs.size _ _ I2 (fun b o e n => up b o (hE b o e n)) (T1.ext up) ⟨c', _, ctv, upd_same, up _ _ eC⟩
  | some cv =>
    obtain ⟨c', e, hco⟩ := ha pos cv hc
    subst e
    rw [hn] at hco
    refine PySem.W.kla_makeFunctionHit (closure_ok hfree) I.ok.glob (I.mod.glob.keeps I.bk) hcode (TB.code.keeps I.bk) hP' ht hc bP fun ctv h' tk hx hsz => ?_
    have I1 : Inv X pins σ H { s with heap := h', toks := tk } := I.kept hx
    have nF : H h'.objs.size = none := I1.hok.fresh (Nat.le_refl _)
    have I2 := inv_lam (t' := tk) (o := LS.obj ⟨X.env.qual ++ "<lambda>", params, body, scope⟩ (cloFrom X.env.cells scope.names []) ((X.mg "__name__").getD .none) c' ctv) I1 rfl
    have up : ∀ b o, H b = some o → upd H h'.objs.size (Lk (LS.obj ⟨X.env.qual ++ "<lambda>", params, body, scope⟩ (cloFrom X.env.cells scope.names []) ((X.mg "__name__").getD .none) c' ctv) h'.objs.size) b = some o := fun b o e => (upd_ne (ne_of_none e nF)).trans e
    exact h h'.objs.size _ _ I2 (fun b o e _ => up b o e) (hT.ext up) ⟨c', _, ctv, upd_same, up _ _ hco⟩
end
def tLamP (T : List NTab) (cl : List (Str × Addr)) (L : LS) : TE := fun σ H Q => TabsN T H ∧ ∀ (f : Addr) (H1 : Hp), ExtN H H1 → TabsN T H1 → FnL H1 f cl L → Q (.ref f) H1
section
variable {X : Cx}
theorem pe_lamP {T : List NTab} {nm : Nat → Nat → Str} {c P : Addr} {params : Arguments} {body : Expr} {scope : Scope} {pos : Pos} (TB : TabB X.base X.mg c P) (hcode : X.env.code = .ref c) (hm : (P, nm) ∈ T) (hu : ∀ p ∈ T, p.1 = P → p.2 = nm) (hn : nm pos.line pos.col = X.env.qual ++ "<lambda>")
    (hdef : defaultsOf params X.env = ([], [])) (hfree : ∀ y ∈ scope.names, y.2 = .free → X.env.scope.names.lookup y.1 = some .cell ∨ X.env.scope.names.lookup y.1 = some .free) :
    PE X (.Lambda params body scope pos) (tLamP T (cloFrom X.env.cells scope.names []) ⟨X.env.qual ++ "<lambda>", params, body, scope⟩) := by
  refine ⟨fun pins s σ H Q I h => ?_⟩
  obtain ⟨hT, h⟩ := h
  exact make_lam I TB hcode hm hn hu hT hdef (fun y hy e => (hfree y hy e).elim (fun z => I.ok.has _ (.inl z)) fun z => I.ok.has _ (.inr z)) fun f H1 s' I1 eN T1 hF => ⟨.ref f, H1, I1, rfl, h f H1 eN T1 hF⟩
end
/-! ### a def is called while the frame's cells are locked -/
def tCallLk (cl : List (Str × Addr)) (fr : List Str) (js : List Nat) (sp : Sp) (t : TA) : TE := fun σ H Q => t σ H fun vs H1 => ∃ ws : List V, js.map (slotAt σ) = ws.map some ∧ ∀ H2, Same H1 H2 → CellL H2 cl fr ws →
  sp vs H2 (fun v H' => ∀ H3, Most H' H3 → Q v H3) E0
section
variable {X : Cx} {k : Nat} {x : Str} {f : Addr} {fd : FuncData} {ps fr : List Str} {js : List Nat} {sp : Sp} {scope : Scope} {p pos : Pos} {e : Expr} {es : List Expr} {t : TA}
theorem pe_callLk (F : FnOk X.prog X.w X.K X.mg X.base CX0 k f fd ps sp) (hr : Room k X.A) (hg : Gl X x) (hm : X.mg x = some (.ref f)) (hk : PySem.W.keepIn X.K (.ref f) = true) (hb : Binds X.K fd ps []) (hfn : ∀ y, X.fn y = true)
    (hfree : ∀ y ∈ scope.names, y.2 = .free → X.env.scope.names.lookup y.1 = some .cell ∨ X.env.scope.names.lookup y.1 = some .free) (hfr : ∀ y ∈ fr, (y, NameKind.free) ∈ scope.names) (hall : ∀ y ∈ scope.names, y.2 = .free → y.1 ∈ fr) (hjs : js.map (fun j => X.N[j]?) = fr.map some)
    (ha : PA X (e :: es) t) (hdb : (x == ("__debug__" : Str)) = false := by decide) (he : starEach (e :: es) X.env = (false, eval e X.env) :: starEach es X.env := by rfl) (hpl : (backTo pos (starEach es X.env)).any (·.1) = false := by rfl) :
    PE X (.Call (.Name x p) (e :: es) [] pos) (tCallLk (cloFrom X.env.cells scope.names []) fr js sp t) := by
  refine ⟨fun pins s σ H Q I h => ?_⟩
  refine wpAny_Call_Name_kw (ld_glob I hg hm ?_ hdb)
  refine PySem.W.callWith_K (h₀ := X.base) I.ok.mod.kin hk (thn (ha.run pos pins s σ H _ I h) fun us s1 ⟨vs, H1, I1, r, q⟩ => ⟨I1.kIn, ?_⟩) he hpl
  obtain ⟨ws, hws, q⟩ := q
  have C := cells_of I1 (Caps.made I1.ok hfree hfr hjs)
  obtain ⟨cl, ecl⟩ : ∃ cl, cl = cloFrom X.env.cells scope.names [] := ⟨_, rfl⟩
  rw [← ecl] at C q
  have allc : ∀ y c, cl.lookup y = some c → y ∈ fr := fun y c ec => by
    rw [ecl] at ec
    rcases cloFrom_mem (PySem.mem_of_lookup ec) with z | ⟨z, _⟩
    · cases z
    · exact hall _ z rfl
  obtain ⟨L, eL⟩ : ∃ L, L = fr.filterMap fun y => cl.lookup y := ⟨_, rfl⟩
  have ofL : ∀ a ∈ L, ∃ y, cl.lookup y = some a := fun a z => by
    rw [eL] at z
    obtain ⟨y, _, hy⟩ := List.mem_filterMap.mp z
    exact ⟨y, hy⟩
  have inL : ∀ y a, cl.lookup y = some a → a ∈ L := fun y a ec => by
    rw [eL]
    exact List.mem_filterMap.mpr ⟨y, allc y a ec, ec⟩
  have envc : ∀ y c, cl.lookup y = some c → X.env.cells.lookup y = some c := fun y c ec => by
    rw [ecl] at ec
    exact (Caps.made I1.ok hfree hfr hjs).sub y c ec
  have nL : ∀ a ∈ L, H1 a = none := fun a z => by
    obtain ⟨y, hy⟩ := ofL a z
    exact (C.all y a hy).1
  have xL : ∀ a ∈ L, ∃ o, s1.heap.get? a = some o := fun a z => by
    obtain ⟨y, hy⟩ := ofL a z
    obtain ⟨v, o, ho, _⟩ := (C.all y a hy).2
    exact ⟨o, ho⟩
  have geL : ∀ a ∈ L, X.s_0.heap.objs.size ≤ a := fun a z => by
    obtain ⟨y, hy⟩ := ofL a z
    exact I1.ok.cab y a (hfn y) (envc y a hy)
  have noL : ∀ b o, X.s_0.heap.get? b = some o → b ∉ L := fun b o e z => absurd (Nat.lt_of_lt_of_le (Heap.lt_size e) (geL b z)) (Nat.lt_irrefl _)
  have e0 := I1.env0
  have e2 : Env0 X.prog X.w X.K X.mg X.base X.A X.stack s1 (lkd L s1.heap H1) := by
    refine ⟨e0.frames, e0.mod, fun b o z => ⟨(e0.bs b o z).1, ?_⟩, e0.bsz, e0.funs, fun b hb => ?_, hok_lkd e0.hok nL, e0.bare⟩
    · rw [lkd_out (noL b o (I1.ok.bs b o z).1)]
      exact (e0.bs b o z).2
    · rw [lkd_out]
      · exact e0.frf b hb
      · intro z
        obtain ⟨y, hy⟩ := ofL b z
        rcases List.mem_cons.mp (I1.stkSub b hb) with z2 | z2
        · exact I1.cne y b (envc y b hy) z2
        · obtain ⟨_, o, ho, _⟩ := I1.ok.funs.mem z2
          exact noL b o ho z
  have s12 : Same H1 (lkd L s1.heap H1) := fun b o z => by
    rw [lkd_out]
    · exact z
    · intro z2
      rw [nL b z2] at z
      cases z
  have wlen : ws.length = fr.length := by
    have z := C.len
    rw [hws, List.length_map] at z
    exact z
  have cL : CellL (lkd L s1.heap H1) cl fr ws := by
    refine ⟨wlen, C.inj, allc, fun i y ey => ?_⟩
    obtain ⟨c, ec, hv⟩ := C.has i y ey
    have hi : i < ws.length := by
      rw [wlen]
      exact (List.getElem?_eq_some_iff.mp ey).1
    have ew : ws[i]? = some ws[i] := List.getElem?_eq_getElem hi
    obtain ⟨u, ru, o, ho, hd⟩ := hv ws[i] (by rw [hws, List.getElem?_map, ew] <;> rfl)
    exact ⟨c, ws[i], o, u, ec, ew, ru, hd, lkd_in (inL y c ec) ho⟩
  have hsp := q _ s12 cL
  have hl : us.length = ps.length := by
    rw [← r.length]
    exact F.len _ _ _ _ hsp
  refine wpAny_call (codeAny_mono (F.run X.A X.stack s1 _ ⟨[] ++ us, []⟩ us vs _ E0 hr e2 (by simpa using hb s1 us I1.kIn (by simpa using hl)) r hsp) fun r s' hq => ?_)
  cases r with
  | error e => exact (show False from hq).elim
  | ok fl =>
    cases fl with
    | ret u =>
      obtain ⟨v, H', os, bare, un, hok, rv, qv⟩ := (show CE X.stack X.prog X.w (lkd L s1.heap H1) s1 _ u s' from hq)
      obtain ⟨hL', un'⟩ := un_lkd nL xL un hok
      exact I1.after (Q := Q) ⟨v, drp L H', os, bare, un', hok_drp hok hL', rv, qv _ (most_drp hL')⟩
    | next => exact False.elim hq
    | brk => exact False.elim hq
    | cont => exact False.elim hq
end
/-! ### what may be called -/
structure CallOk (P : Program) (w : World) (K : PySem.W.Frag) (mg : Str → Option Value) (base : Heap) (k : Nat) (C : Hp → Addr → Prop) (sp : Sp) : Prop where
  run : ∀ (A : Around) (outer : List Env) (s : Shared) (H : Hp) (us : List Value) (vs : List V) (f : Addr) (Q : VK) (E : XK), Room k A → Env0 P w K mg base A outer s H → C H f → Vals vs us → sp vs H Q E → codeAny (model P w) A (.call (.ref f) ⟨us, []⟩) (CR CX0 outer P w H s Q E) s
  fn : ∀ (H : Hp) (h : Heap) (f : Addr), HOk P w H h → K.In h → C H f → PySem.W.FnAt f h
  mono : ∀ (H H' : Hp) (f : Addr), Same H H' → C H f → C H' f
theorem CallOk.lv {P : Program} {w : World} {K : PySem.W.Frag} {mg : Str → Option Value} {base : Heap} {j k : Nat} {C : Hp → Addr → Prop} {sp : Sp} (F : CallOk P w K mg base j C sp) (h : j ≤ k) : CallOk P w K mg base k C sp :=
  ⟨fun A outer s H us vs f Q E hr => F.run A outer s H us vs f Q E (hr.mono h), F.fn, F.mono⟩
def tCallV (i : Nat) (C : Hp → Addr → Prop) (sp : Sp) (t : TA) : TE := fun σ H Q => ∃ f, σ[i]? = some (some (.ref f)) ∧ C H f ∧ t σ H fun vs H1 => C H1 f ∧ sp vs H1 Q E0
section
variable {X : Cx} {k i : Nat} {x : Str} {C : Hp → Addr → Prop} {sp : Sp} {p pos : Pos} {e : Expr} {es : List Expr} {t : TA}
theorem pe_callV (F : CallOk X.prog X.w X.K X.mg X.base k C sp) (hr : Room k X.A) (hN : X.N[i]? = some x) (hv : Vis X.env.scope x) (ha : PA X (e :: es) t)
    (hdb : (x == ("__debug__" : Str)) = false := by decide) (hcd : (x == ("__classdict__" : Str)) = false := by decide) (he : starEach (e :: es) X.env = (false, eval e X.env) :: starEach es X.env := by rfl) (hpl : (backTo pos (starEach es X.env)).any (·.1) = false := by rfl) :
    PE X (.Call (.Name x p) (e :: es) [] pos) (tCallV i C sp t) := by
  refine ⟨fun pins s σ H Q I h => ?_⟩
  obtain ⟨f, hs, hC, ht⟩ := h
  refine wpAny_Call_Name_kw (thn ((pe_var (pos := p) hN hv hdb hcd).run pins s σ H (fun v H1 => v = .ref f ∧ H1 = H) I ⟨.ref f, hs, rfl, rfl⟩) fun u s1 ⟨v, H1, I1, r1, q1⟩ => ?_)
  obtain ⟨ev, eH⟩ := q1
  subst ev
  rw [eH] at I1
  obtain rfl : u = Value.ref f := r1
  refine PySem.W.callWith_F (first := []) (F.fn _ _ _ I1.hok I1.kIn hC) (thn (ha.run pos pins s1 σ H _ I1 ht) fun us s2 ⟨vs, H2, I2, r, h1, q⟩ => ⟨F.fn _ _ _ I2.hok I2.kIn h1, ?_⟩) he hpl
  refine wpAny_call (codeAny_mono (F.run X.A X.stack s2 H2 us vs f Q E0 hr I2.env0 h1 r q) fun r s' hq => ?_)
  cases r with
  | error e => exact (show False from hq).elim
  | ok fl =>
    cases fl with
    | ret u => exact I2.after hq
    | next => exact False.elim hq
    | brk => exact False.elim hq
    | cont => exact False.elim hq
end
/-! ### a lambda by its body -/
section
variable {P : Program} {w : World} {K : PySem.W.Frag} {mg : Str → Option Value} {base : Heap} {N ps fr : List Str} {L : LS} {k : Nat}
abbrev nfL (L : LS) (cl : List (Str × Addr)) (c : Addr) : NF := ⟨"<lambda>", L.qual, L.params, [], L.scope, cl, c⟩
theorem lam_ok {ws : List V} {sp : Sp} (S : NScope N ps fr L.scope) (hb : ∀ (cl : List (Str × Addr)) (pm cv ctv : Value) (us : List Value), us.length = ps.length → bindArgs (PySem.W.kla_fn "<lambda>" L.qual L.params L.body L.scope cl pm cv ctv) ⟨us, []⟩ = pure (ps.zip us)) (len : ∀ vs H Q E, sp vs H Q E → vs.length = ps.length)
    (hbody : ∀ (cl : List (Str × Addr)) (c f : Addr) (A : Around) (outer : List Env) (s : Shared) (H Hd : Hp) (vs : List V) (Q : VK) (E : XK), Room k (A.deeper (envF (nfL L cl c) f s.heap.objs.size)) → sp vs H Q E → Most H Hd →
      ∃ t, PE (ncx CX0 P w K mg base N (nfL L cl c) f A outer s Hd E) L.body t ∧ t (startF N vs (ws.map some)) Hd fun u H' => ∀ H3, Same H' H3 → (Same Hd H' → Same H H3) → Q u H3) :
    CallOk P w K mg base (k + 1) (fun H f => LamAt H f L fr ws) sp := by
  refine ⟨fun A outer s H us vs f Q E hr e0 hC r hsp => ?_, fun H h f hok _ hC => ?_, fun H H' f m hC => hC.mono m⟩
  · obtain ⟨cl, ⟨c, pm, ctv, hf, hc⟩, C⟩ := hC
    have hl := len _ _ _ _ hsp
    have lim : s.heap.NoLimit := e0.mod.nolimit.keeps fun b o e => (e0.bs b o e).1
    have ho := lk_at e0.hok hf
    obtain ⟨LL, eL⟩ : ∃ LL, LL = fr.filterMap fun y => cl.lookup y := ⟨_, rfl⟩
    have ofL : ∀ a ∈ LL, ∃ o, H a = some (Lk o a) := fun a z => by
      rw [eL] at z
      obtain ⟨y, hy, ey⟩ := List.mem_filterMap.mp z
      obtain ⟨i, hi⟩ := List.mem_iff_getElem?.mp hy
      obtain ⟨c2, v, o, u, h1, _, _, _, h5⟩ := C.at_ i y hi
      rw [ey] at h1
      cases h1
      exact ⟨o, h5⟩
    have inL : ∀ y a, cl.lookup y = some a → a ∈ LL := fun y a ec => by
      rw [eL]
      exact List.mem_filterMap.mpr ⟨y, C.all y a ec, ec⟩
    have e2 : Env0 P w K mg base A outer s (drp LL H) := by
      refine ⟨e0.frames, e0.mod, fun b o z => ⟨(e0.bs b o z).1, ?_⟩, e0.bsz, e0.funs, fun b hb => ?_, hok_drp e0.hok ofL, e0.bare⟩
      · have n := (e0.bs b o z).2
        by_cases hb : b ∈ LL
        · exact drp_in hb
        · rw [drp_out hb]
          exact n
      · have n := e0.frf b hb
        by_cases hb : b ∈ LL
        · exact drp_in hb
        · rw [drp_out hb]
          exact n
    have CA : CellsAt cl fr (ws.map some) s.heap (drp LL H) := by
      refine ⟨by rw [List.length_map]; exact C.len, fun y a ec => ⟨drp_in (inL y a ec), ?_⟩, C.inj, fun i y ey => ?_⟩
      · obtain ⟨i, hi⟩ := List.mem_iff_getElem?.mp (C.all y a ec)
        obtain ⟨c2, v, o, u, h1, _, _, h4, h5⟩ := C.at_ i y hi
        rw [ec] at h1
        cases h1
        exact ⟨some u, o, lk_at e0.hok h5, h4⟩
      · obtain ⟨c2, v, o, u, h1, h2, h3, h4, h5⟩ := C.at_ i y ey
        refine ⟨c2, h1, fun v' ev => ?_⟩
        rw [List.getElem?_map, h2] at ev
        have ev : some (some v) = some (some v') := ev
        cases ev
        exact ⟨u, h3, o, lk_at e0.hok h5, h4⟩
    refine PySem.W.kla_callFunE hr.depth ho rfl S.co S.gen rfl (codeO_at e0.hok hc) ?_
    rw [hb cl pm _ ctv us (by rw [← r.length]; exact hl)]
    refine wpAny_pure (wpAny_newFunctionEnv S.nocell (fun ⟨n, _⟩ hy => S.par n (List.of_mem_zip hy).1) (fun h₁ hns hsb => ⟨lim.fresh _ hsb, ?_⟩) S.kind)
    show codeAny _ _ (.expr L.body (envF (nfL L cl c) f s.heap.objs.size)) _ _
    have kp : ∀ b o, s.heap.get? b = some o → h₁.get? b = some o := fun b o e => hsb.extBut b o (Nat.ne_of_lt (Heap.lt_size e)) (Heap.get?_push_of_some _ e)
    obtain ⟨t, ht, hq⟩ := hbody cl c f A outer s H (drp LL H) vs Q E (hr.deeper _) hsp (most_drp ofL)
    have I : Inv (ncx CX0 P w K mg base N (nfL L cl c) f A outer s (drp LL H) E) [] (startF N vs (ws.map some)) (drp LL H) { s with heap := h₁, toks := s.toks + (ps.zip us).length } := inv_startN S hr.hd e2 hl r CA hns kp
    refine PySem.W.kla_codeExpr (wpAny_mono (ht.run [] _ (startF N vs (ws.map some)) (drp LL H) _ I hq) (fun v s' hs => ?_) fun e s' hs => hs)
    obtain ⟨u, H', J, rv, q⟩ := hs
    have un : Un (frs outer) [] (drp LL H) H' s.heap s'.heap := J.base
    obtain ⟨n', un', hok'⟩ := un_bck ofL e0.frf e0.hok un J.hok
    refine ⟨u, bck LL H H', J.os, J.bare, un', hok', rv, q _ (fun b o e => ?_) fun m b o e => ?_⟩
    · rw [bck_out]
      · exact e
      · intro z
        rw [n' b z] at e
        cases e
    · by_cases hb : b ∈ LL
      · rw [bck_in hb]
        exact e
      · rw [bck_out hb]
        exact m b o (by rw [drp_out hb]; exact e)
  · obtain ⟨cl, ⟨c, pm, ctv, hf, _⟩, _⟩ := hC
    exact ⟨_, _, _, _, lk_at hok hf⟩
/-- a def of the module -/
theorem callOk_fn {f0 : Addr} {fd : FuncData} {sp : Sp} (F : FnOk P w K mg base CX0 k f0 fd ps sp) (hb : Binds K fd ps []) {oc : Value} {od : Option Addr} {sl : Array (Option Value)} (lk : K.lookup f0 = some ⟨oc, od, .func fd, sl⟩) : CallOk P w K mg base k (fun _ f => f = f0) sp := by
  refine ⟨fun A outer s H us vs f Q E hr e0 hC r hsp => ?_, fun H h f _ KX hC => ?_, fun _ _ _ _ h => h⟩
  · subst hC
    have KX : K.In s.heap := e0.mod.kin.keeps fun b o e => (e0.bs b o e).1
    have hl : us.length = ps.length := by
      rw [← r.length]
      exact F.len _ _ _ _ hsp
    exact F.run A outer s H ⟨us, []⟩ us vs Q E hr e0 (by simpa using hb s us KX (by simpa using hl)) r hsp
  · subst hC
    exact ⟨_, _, _, _, KX _ _ lk⟩
end
/-! ### defs whose code object is named -/
section
variable {P : Program} {w : World} {K : PySem.W.Frag} {mg : Str → Option Value} {base : Heap}
theorem okC {x qual : Str} {st : Stmt} {f : Addr} {fd : FuncData} {N ps : List Str} {k : Nat} {sp : Sp} (F : Fun K x qual st f fd) (S : FnScope N ps (defScope st)) (len : ∀ vs H Q E, sp vs H Q E → vs.length = ps.length)
    (hb : ∀ (cdv : Value), fd.code = cdv → ∀ (A : Around) (outer : List Env) (s : Shared) (H : Hp) (vs : List V) (Q : VK) (E : XK), Room k (A.deeper (envOfC qual (defScope st) s.heap.objs.size f cdv)) → sp vs H Q E →
      ∃ t, PSs (cxOf CX0 P w K mg base N qual (defScope st) f cdv A outer s H E).nox (defBody st) t ∧ t { nx := fun _ H' => Q .non H', rt := Q } (start N vs) H) : FnOk P w K mg base CX0 (k + 1) f fd ps sp := by
  obtain ⟨oc, od, kV, doc, pm, an, cdv, ct, osl, rfl, lk, hcd⟩ := F.ex
  refine fn_of lk hcd S len fun A outer s H vs Q E hr hsp => ?_
  obtain ⟨t, h1, q⟩ := hb cdv rfl A outer s H vs Q E hr hsp
  exact ⟨t, h1.nox, q⟩
theorem okXC {x qual : Str} {st : Stmt} {f : Addr} {fd : FuncData} {N ps : List Str} {k : Nat} {sp : Sp} (F : Fun K x qual st f fd) (S : FnScope N ps (defScope st)) (len : ∀ vs H Q E, sp vs H Q E → vs.length = ps.length)
    (hb : ∀ (cdv : Value), fd.code = cdv → ∀ (A : Around) (outer : List Env) (s : Shared) (H : Hp) (vs : List V) (Q : VK) (E : XK), Room k (A.deeper (envOfC qual (defScope st) s.heap.objs.size f cdv)) → sp vs H Q E →
      ∃ t, PSs (cxOf (L2.CX P w) P w K mg base N qual (defScope st) f cdv A outer s H E) (defBody st) t ∧ t { nx := fun _ H' => Q .non H', rt := Q } (start N vs) H) : FnOk P w K mg base (L2.CX P w) (k + 1) f fd ps sp := by
  obtain ⟨oc, od, kV, doc, pm, an, cdv, ct, osl, rfl, lk, hcd⟩ := F.ex
  exact fn_of lk hcd S len fun A outer s H vs Q E hr hsp => hb cdv rfl A outer s H vs Q E hr hsp
end
end LamP
set_option Elab.async false
set_option linter.all false
set_option maxRecDepth 100000
set_option maxHeartbeats 4000000
/-! What stands while lambdas are made: all but tables of code and locked things. -/
namespace Gm
open PySem L2 NdefX LamX
def Mo (H H' : Hp) : Prop := ∀ b o, H b = some o → (∀ ps, o ≠ .tbl ps) → (∀ ob u, o ≠ .frz ob (.ext u)) → H' b = some o
theorem Mo.refl (H : Hp) : Mo H H := fun _ _ e _ _ => e
theorem Mo.of {H H' : Hp} (s : Same H H') : Mo H H' := fun b o e _ _ => s b o e
theorem Mo.trans {H H1 H2 : Hp} (a : Mo H H1) (b : Mo H1 H2) : Mo H H2 := fun c o e n m => b c o (a c o e n m) n m
theorem Mo.ext {H H' : Hp} (s : ExtN H H') : Mo H H' := fun b o e n _ => s b o e n
theorem Mo.most {H H' : Hp} (s : LamP.Most H H') : Mo H H' := fun b o e _ m => s b o e m
theorem tabs_same {T : List NTab} {H H' : Hp} (t : TabsN T H) (s : Same H H') : TabsN T H' := t.ext s
theorem sqT_mo {K : PySem.W.Frag} {H H' : Hp} {a : Addr} {xs : List V} (e : Mo H H') (h : SqT K H a xs) : SqT K H' a xs := by
  rcases h with (h | ⟨o, h⟩) | h
  · exact .inl (.inl (e _ _ h (fun _ z => nomatch z) fun _ _ z => nomatch z))
  · exact .inl (.inr ⟨o, e _ _ h (fun _ z => nomatch z) fun _ _ z => nomatch z⟩)
  · exact .inr h
theorem sqL_mo {K : PySem.W.Frag} {H H' : Hp} {a : Addr} {xs : List V} (e : Mo H H') (h : SqL K H a xs) : SqL K H' a xs := by
  rcases h with (h | ⟨o, h⟩) | h
  · exact .inl (.inl (e _ _ h (fun _ z => nomatch z) fun _ _ z => nomatch z))
  · exact .inl (.inr ⟨o, e _ _ h (fun _ z => nomatch z) fun _ _ z => nomatch z⟩)
  · exact .inr h
mutual
theorem dp_mo {K : PySem.W.Frag} {H H' : Hp} (s : Mo H H') : ∀ (d : PyData) (v : V), Dp K H v d → Dp K H' v d
  | .none, _, h => by cases h; exact .non
  | .bool b, _, h => by cases h; exact .bl b
  | .int i, _, h => by cases h; exact .int i
  | .str x, _, h => by cases h; exact .str x
  | .list ds, _, h => by
    cases h with
    | lst hs ha => exact .lst (sqL_mo s hs) (dp_moAll s ds _ ha)
  | .tuple ds, _, h => by
    cases h with
    | tup hs ha => exact .tup (sqT_mo s hs) (dp_moAll s ds _ ha)
  | .dict _, _, h => by cases h
theorem dp_moAll {K : PySem.W.Frag} {H H' : Hp} (s : Mo H H') : ∀ (ds : List PyData) (vs : List V), DpAll K H vs ds → DpAll K H' vs ds
  | [], _, h => by cases h; exact .nil
  | d :: ds, _, h => by
    cases h with
    | cons h1 h2 => exact .cons (dp_mo s d _ h1) (dp_moAll s ds _ h2)
end
theorem GmD.mo {K : PySem.W.Frag} {C : Addr} {H H' : Hp} {g : Addr} {G : Ga} (h : GmD K C H g G) (s : Mo H H') : GmD K C H' g G :=
  let ⟨dx, a, b, c, d, h0, h1, h2, h3, h4⟩ := h
  ⟨dx, a, b, c, d, s _ _ h0 (fun _ z => (nomatch z)) (fun _ _ z => (nomatch z)), dp_mo s _ _ h1, dp_mo s _ _ h2, dp_mo s _ _ h3, dp_mo s _ _ h4⟩
/-! ### lambdas in the text -/
def asgVal : Stmt → Expr
  | .Assign _ v _ => v
  | .Return (some v) _ => v
  | _ => default
def callArg (j : Nat) : Expr → Expr
  | .Call _ es _ _ => es.getD j default
  | _ => default
theorem inDK {X : Cx} (K : PySem.W.Frag) (h : X.K = K) (hu : X.A.units + 65 < cLine) : OpR X (compareOp .In) (rInD K) := by subst h; exact op_inD hu
/-! ### what erasing and spelling lead to -/
/-- another name than n -/
def nN (n : Str) (t : Str × Int × Int) : Bool := decide (t.1 ≠ n)
def Ga.erV (n : Str) (G : Ga) : Ga := ⟨G.vars.filter (nN n), G.tabs, G.lots, (G.cb (Stm.er (("variable" : Str), n))).procs⟩
def Ga.erT (n : Str) (G : Ga) : Ga := ⟨G.vars, G.tabs.filter (nN n), G.lots, (G.cb (Stm.er (("table" : Str), n))).procs⟩
def EraseTo (G : Ga) (kd n : Str) (D : Ga) : Prop := (∀ p ∈ G.procs, (kd, n) ∉ p.rds) ∧ ((kd = "variable" ∧ n ∈ G.vars.map (·.1) ∧ D = G.erV n) ∨ (kd = "table" ∧ n ∈ G.tabs.map (·.1) ∧ D = G.erT n))
theorem erase_uq {G : Ga} {kd n : Str} {D D' : Ga} (h : EraseTo G kd n D) (h' : EraseTo G kd n D') : D' = D := by
  rcases h.2 with ⟨e, _, r⟩ | ⟨e, _, r⟩ <;> rcases h'.2 with ⟨e', _, r'⟩ | ⟨e', _, r'⟩
  · rw [r, r']
  · rw [e] at e'; exact absurd e' (by decide +kernel)
  · rw [e] at e'; exact absurd e' (by decide +kernel)
  · rw [r, r']
def goodS (n : Str) : Stm → Prop
  | .lot l o e => o = n → (("local" : Str), l) ∉ e.reads
  | _ => True
def Stm.isLk (n : Str) : Stm → Bool
  | .lot _ o _ => decide (o = n)
  | _ => false
def Stm.sp (n : Str) (c : Int) : Stm → Stm
  | .lot l o e => if o = n then spel n c l e else .lot l o e
  | s => s
def Ga.spl (n : Str) (c : Int) (G : Ga) : Ga := ⟨G.vars, G.tabs ++ G.lots.filter (fun t => !nN n t), G.lots.filter (nN n), (G.cb fun s => [s.sp n c]).procs⟩
def SpellTo (G : Ga) (n : Str) (D : Ga) : Prop := n ∉ G.tabs.map (·.1) ∧ (∀ p ∈ G.procs, ∀ s ∈ p.block.all, goodS n s) ∧ ∃ t r, G.lots.filter (fun t => !nN n t) = t :: r ∧ D = G.spl n t.2.2
theorem spell_uq {G : Ga} {n : Str} {D D' : Ga} (h : SpellTo G n D) (h' : SpellTo G n D') : D' = D := by
  obtain ⟨_, _, t, r, e, rfl⟩ := h
  obtain ⟨_, _, t', r', e', rfl⟩ := h'
  rw [e] at e'
  injection e' with e1 _
  rw [e1]
end Gm
set_option Elab.async false
set_option linter.all false
set_option maxRecDepth 100000
set_option maxHeartbeats 4000000
namespace Toy
open PySem L2 Gm NdefX
open Mine hiding same_new
def top (i : Nat) : Stmt := PySem.Challenge.pw_tellsnone_k06_games_that_are_unlike.main.body.getD i (.Pass ⟨0, 0, 0, 0⟩)
abbrev s_BadStep_init : Stmt := inClass (top 5) 0
def oke_BadStep : V → Prop := fun y => ∃ t : Str, y = .str t ∧ t.length ≤ 1000
theorem err_BadStep {P : Program} {w : World} {K : PySem.W.Frag} {mg : Str → Option Value} {base : Heap} {k : Nat} {C f : Addr} {fd : FuncData} {file : Str} (F : ErrF K mg C f fd "BadStep.__init__" s_BadStep_init file "rule") (hP : PrF P file) :
    FnOk P w K mg base CX0 (k + 1) f fd [("self" : Str), "rule"] (spErr C "rule" oke_BadStep) :=
  err_ok F hP.1 hP.2 rfl (nscope_by (by decide +kernel)) rfl rfl rfl (fun _ => rfl) (fun _ => rfl) (fun _ => rfl) (fun _ => rfl) (by decide) (by decide) (fun X hN hs => pe_joined (.cons pe_str (.cons (pe_fmt (pe_var (i := 1) (by rw [hN]; rfl) (by rw [hs]; exact .inl rfl))) (.cons pe_str .nil))))
    (by
      rintro σ H y Q e ⟨i, rfl, hi⟩ q
      exact js_S3 (by decide +kernel) (by decide +kernel) e hi q)
abbrev s_Ratio_init : Stmt := inClass (top 11) 0
theorem sc_Ratio_init : FnScope ["self", "num", "den", "common"] ["self", "num", "den"] (defScope s_Ratio_init) := ⟨rfl, rfl, rfl, by decide +kernel, rfl, by decide +kernel, by decide +kernel⟩
abbrev s_Bound_init : Stmt := inClass (top 13) 0
theorem sc_Bound_init : FnScope ["self", "flat", "first", "more", "limit"] ["self", "flat", "first", "more", "limit"] (defScope s_Bound_init) := ⟨rfl, rfl, rfl, by decide +kernel, rfl, by decide +kernel, by decide +kernel⟩
abbrev s_nothing : Stmt := top 16
theorem sc_nothing : FnScope [] [] (defScope s_nothing) := ⟨rfl, rfl, rfl, by decide +kernel, rfl, by decide +kernel, by decide +kernel⟩
abbrev s_Game_init : Stmt := inClass (top 28) 0
theorem sc_Game_init : FnScope ["self", "variables", "tables", "lots", "procs"] ["self", "variables", "tables", "lots", "procs"] (defScope s_Game_init) := ⟨rfl, rfl, rfl, by decide +kernel, rfl, by decide +kernel, by decide +kernel⟩
abbrev s_Game_eq : Stmt := inClass (top 28) 1
theorem sc_Game_eq : FnScope ["self", "other"] ["self", "other"] (defScope s_Game_eq) := ⟨rfl, rfl, rfl, by decide +kernel, rfl, by decide +kernel, by decide +kernel⟩
abbrev s_changed_block : Stmt := top 37
theorem sc_changed_block : FnScope ["block", "change", "found", "statement"] ["block", "change"] (defScope s_changed_block) := ⟨rfl, rfl, rfl, by decide +kernel, rfl, by decide +kernel, by decide +kernel⟩
abbrev s_with_changed_blocks : Stmt := top 38
theorem sc_with_changed_blocks : FnScope ["statement", "change", "_", "test", "first", "second"] ["statement", "change"] (defScope s_with_changed_blocks) := ⟨rfl, rfl, rfl, by decide +kernel, rfl, by decide +kernel, by decide +kernel⟩
abbrev s_with_changed_statements : Stmt := top 39
theorem sc_with_changed_statements : FnScope ["game", "change", "procs", "name", "size", "answers", "inner", "block", "result"] ["game", "change"] (defScope s_with_changed_statements) := ⟨rfl, rfl, rfl, by decide +kernel, rfl, by decide +kernel, by decide +kernel⟩
abbrev s_alike : Stmt := top 51
theorem sc_alike : FnScope ["game", "other"] ["game", "other"] (defScope s_alike) := ⟨rfl, rfl, rfl, by decide +kernel, rfl, by decide +kernel, by decide +kernel⟩
abbrev s_until_bad : Stmt := top 52
theorem sc_until_bad : FnScope ["game"] ["game"] (defScope s_until_bad) := ⟨rfl, rfl, rfl, by decide +kernel, rfl, by decide +kernel, by decide +kernel⟩
abbrev s_without_inner : Stmt := top 53
theorem sc_without_inner : FnScope ["statement"] ["statement"] (defScope s_without_inner) := ⟨rfl, rfl, rfl, by decide +kernel, rfl, by decide +kernel, by decide +kernel⟩
abbrev s_Derivation_init : Stmt := inClass (top 148) 0
theorem sc_Derivation_init : FnScope ["self", "game"] ["self", "game"] (defScope s_Derivation_init) := ⟨rfl, rfl, rfl, by decide +kernel, rfl, by decide +kernel, by decide +kernel⟩
abbrev s_Derivation_step : Stmt := inClass (top 148) 1
theorem sc_Derivation_step : FnScope ["self", "step", "game", "bound"] ["self", "step"] (defScope s_Derivation_step) := ⟨rfl, rfl, rfl, by decide +kernel, rfl, by decide +kernel, by decide +kernel⟩
abbrev s_behind : Stmt := top 149
theorem sc_behind : FnScope ["game", "step"] ["game", "step"] (defScope s_behind) := ⟨rfl, rfl, rfl, by decide +kernel, rfl, by decide +kernel, by decide +kernel⟩
abbrev s_behind_until : Stmt := top 152
theorem sc_behind_until : FnScope ["game", "step", "_", "other"] ["game", "step"] (defScope s_behind_until) := ⟨rfl, rfl, rfl, by decide +kernel, rfl, by decide +kernel, by decide +kernel⟩
abbrev s_law_pool : Stmt := top 156
theorem sc_law_pool : FnScope ["script", "budget"] ["script", "budget"] (defScope s_law_pool) := ⟨rfl, rfl, rfl, by decide +kernel, rfl, by decide +kernel, by decide +kernel⟩
abbrev s_law_draw : Stmt := top 157
theorem sc_law_draw : FnScope ["pool", "size", "cell", "value"] ["pool", "size"] (defScope s_law_draw) := ⟨rfl, rfl, rfl, by decide +kernel, rfl, by decide +kernel, by decide +kernel⟩
abbrev s_law_spend : Stmt := top 158
theorem sc_law_spend : FnScope ["pool"] ["pool"] (defScope s_law_spend) := ⟨rfl, rfl, rfl, by decide +kernel, rfl, by decide +kernel, by decide +kernel⟩
abbrev s_law_number : Stmt := top 159
theorem sc_law_number : FnScope ["pool"] ["pool"] (defScope s_law_number) := ⟨rfl, rfl, rfl, by decide +kernel, rfl, by decide +kernel, by decide +kernel⟩
abbrev s_law_same : Stmt := top 160
theorem sc_law_same : FnScope ["actual", "due", "k"] ["actual", "due"] (defScope s_law_same) := ⟨rfl, rfl, rfl, by decide +kernel, rfl, by decide +kernel, by decide +kernel⟩
abbrev s_law_expression : Stmt := top 161
theorem sc_law_expression : FnScope ["pool", "scope", "deep", "kind", "sign", "left", "table"] ["pool", "scope", "deep"] (defScope s_law_expression) := ⟨rfl, rfl, rfl, by decide +kernel, rfl, by decide +kernel, by decide +kernel⟩
abbrev s_law_statement : Stmt := top 162
theorem sc_law_statement : FnScope ["pool", "scope", "room", "kind", "local", "value", "table", "count", "lots", "then"] ["pool", "scope", "room"] (defScope s_law_statement) := ⟨rfl, rfl, rfl, by decide +kernel, rfl, by decide +kernel, by decide +kernel⟩
abbrev s_law_block : Stmt := top 163
theorem sc_law_block : FnScope ["pool", "scope", "room", "most", "block", "k"] ["pool", "scope", "room", "most"] (defScope s_law_block) := ⟨rfl, rfl, rfl, by decide +kernel, rfl, by decide +kernel, by decide +kernel⟩
abbrev s_law_game : Stmt := top 164
theorem sc_law_game : FnScope ["pool", "wide", "ways", "scope", "upper", "k", "size", "variables", "tables", "lots", "procs", "block", "answers"] ["pool", "wide", "ways"] (defScope s_law_game) := ⟨rfl, rfl, rfl, by decide +kernel, rfl, by decide +kernel, by decide +kernel⟩
abbrev s_law_value_named : Stmt := top 165
theorem sc_law_value_named : FnScope ["due", "kind", "old", "new"] ["due", "kind", "old", "new"] (defScope s_law_value_named) := ⟨rfl, rfl, rfl, by decide +kernel, rfl, by decide +kernel, by decide +kernel⟩
abbrev s_law_block_named : Stmt := top 166
theorem sc_law_block_named : FnScope ["block", "kind", "old", "new", "found", "due", "words", "at", "first"] ["block", "kind", "old", "new"] (defScope s_law_block_named) := ⟨rfl, rfl, rfl, by decide +kernel, rfl, by decide +kernel, by decide +kernel⟩
abbrev s_law_named : Stmt := top 167
theorem sc_law_named : FnScope ["game", "kind", "old", "new", "procs", "proc", "rows", "part", "at", "row", "name"] ["game", "kind", "old", "new"] (defScope s_law_named) := ⟨rfl, rfl, rfl, by decide +kernel, rfl, by decide +kernel, by decide +kernel⟩
abbrev s_law_rows : Stmt := top 168
theorem sc_law_rows : FnScope ["game", "found", "kind", "rows", "k", "name", "size", "last", "most", "others", "row"] ["game"] (defScope s_law_rows) := ⟨rfl, rfl, rfl, by decide +kernel, rfl, by decide +kernel, by decide +kernel⟩
abbrev s_law_procs : Stmt := top 169
theorem sc_law_procs : FnScope ["game", "found", "k", "name", "size", "answers", "names", "block", "result", "rows", "row"] ["game"] (defScope s_law_procs) := ⟨rfl, rfl, rfl, by decide +kernel, rfl, by decide +kernel, by decide +kernel⟩
abbrev s_law_within : Stmt := top 170
theorem sc_law_within : FnScope ["block", "found", "due"] ["block"] (defScope s_law_within) := ⟨rfl, rfl, rfl, by decide +kernel, rfl, by decide +kernel, by decide +kernel⟩
abbrev s_law_until : Stmt := top 171
theorem sc_law_until : FnScope ["made", "other", "derivation", "e"] ["made", "other"] (defScope s_law_until) := ⟨rfl, rfl, rfl, by decide +kernel, rfl, by decide +kernel, by decide +kernel⟩
abbrev s_law : Stmt := top 172
theorem sc_law : FnScope ["script", "pool", "game", "procs", "proc", "made", "same_v", "other", "drawn"] ["script"] (defScope s_law) := ⟨rfl, rfl, rfl, by decide +kernel, rfl, by decide +kernel, by decide +kernel⟩
/-! ### a ratio's attributes -/
theorem nd_ : ¬ (("num" : Str) = "den") := by decide +kernel
def rf (q : Rat) : List (Str × V) := putF "den" (.int (q.den : Int)) (putF "num" (.int q.num) [])
theorem rf_num (q : Rat) : (rf q).lookup ("num" : Str) = some (.int q.num) := by
  unfold rf
  rw [lookup_putF, if_neg nd_, lookup_putF, if_pos rfl]
theorem rf_den (q : Rat) : (rf q).lookup ("den" : Str) = some (.int (q.den : Int)) := by
  unfold rf
  rw [lookup_putF, if_pos rfl]
theorem rf_no (q : Rat) {m : Str} (h1 : ¬ m = "num") (h2 : ¬ m = "den") : (rf q).lookup m = none := by
  unfold rf
  rw [lookup_putF, if_neg h2, lookup_putF, if_neg h1]
  all_goals rfl
/-- a Ratio of the value q -/
def RV (C : Addr) (H : Hp) (p : Addr) (q : Rat) : Prop := ∃ dx, H p = some (.ins C dx (rf q))
theorem RV.same {C : Addr} {H H' : Hp} {p : Addr} {q : Rat} (r : RV C H p q) (s : Same H H') : RV C H' p q := let ⟨dx, h⟩ := r; ⟨dx, s _ _ h⟩
/-! ### a bound's attributes -/
def lV : Option Int → V
  | none => .non
  | some l => .int l
theorem b1_ : ¬ (("flat" : Str) = "first") := by decide +kernel
theorem b2_ : ¬ (("flat" : Str) = "more") := by decide +kernel
theorem b3_ : ¬ (("flat" : Str) = "limit") := by decide +kernel
theorem b4_ : ¬ (("first" : Str) = "more") := by decide +kernel
theorem b5_ : ¬ (("first" : Str) = "limit") := by decide +kernel
theorem b6_ : ¬ (("more" : Str) = "limit") := by decide +kernel
def bf (a b c : Addr) (l : V) : List (Str × V) := putF "limit" l (putF "more" (.ref c) (putF "first" (.ref b) (putF "flat" (.ref a) [])))
section
variable (a b c : Addr) (l : V)
theorem bf_flat : (bf a b c l).lookup ("flat" : Str) = some (.ref a) := by unfold bf; rw [lookup_putF, if_neg b3_, lookup_putF, if_neg b2_, lookup_putF, if_neg b1_, lookup_putF, if_pos rfl]
theorem bf_first : (bf a b c l).lookup ("first" : Str) = some (.ref b) := by unfold bf; rw [lookup_putF, if_neg b5_, lookup_putF, if_neg b4_, lookup_putF, if_pos rfl]
theorem bf_more : (bf a b c l).lookup ("more" : Str) = some (.ref c) := by unfold bf; rw [lookup_putF, if_neg b6_, lookup_putF, if_pos rfl]
theorem bf_limit : (bf a b c l).lookup ("limit" : Str) = some l := by unfold bf; rw [lookup_putF, if_pos rfl]
theorem bf_no {m : Str} (h1 : ¬ m = "flat") (h2 : ¬ m = "first") (h3 : ¬ m = "more") (h4 : ¬ m = "limit") : (bf a b c l).lookup m = none := by
  unfold bf
  rw [lookup_putF, if_neg h4, lookup_putF, if_neg h3, lookup_putF, if_neg h2, lookup_putF, if_neg h1]
  all_goals rfl
end
/-- a Bound of the value x -/
def BV (CB CR : Addr) (H : Hp) (p : Addr) (x : Bq) : Prop := ∃ dx a b c, H p = some (.ins CB dx (bf a b c (lV x.lim))) ∧ RV CR H a x.a ∧ RV CR H b x.b ∧ RV CR H c x.c
theorem BV.same {CB CR : Addr} {H H' : Hp} {p : Addr} {x : Bq} (r : BV CB CR H p x) (s : Same H H') : BV CB CR H' p x :=
  let ⟨dx, a, b, c, h, h1, h2, h3⟩ := r
  ⟨dx, a, b, c, s _ _ h, h1.same s, h2.same s, h3.same s⟩
/-- below 2 ^ k -/
abbrev Sm (k : Nat) (n : Int) : Prop := n.natAbs < 2 ^ k
theorem Sm.mono {j k : Nat} {n : Int} (h : Sm j n) (hk : j ≤ k) : Sm k n := Nat.lt_of_lt_of_le h (Nat.pow_le_pow_right (by decide) hk)
theorem cmul {j k : Nat} {a b : Int} (ha : Sm j a) (hb : Sm k b) (h0 : 0 < j := by decide) (h1 : 0 < k := by decide) (h : j + k ≤ 1000000 := by decide) : CMulW a b := wide_mul ha hb h0 h1 h
theorem cdiv {k : Nat} {a b : Int} (h : 0 < b) (hb : Sm k b) (h0 : 0 < k := by decide) (h9 : k ≤ 9000 := by decide) : CDivW a b := wide_div h hb h0 h9
theorem sm_gcd {k : Nat} {n d : Int} (hd : 0 < d) (h : Sm k d) : Sm k ((Nat.gcd n.natAbs d.natAbs : Nat) : Int) := by
  show ((Nat.gcd n.natAbs d.natAbs : Nat) : Int).natAbs < 2 ^ k
  rw [Int.natAbs_natCast]
  exact Nat.lt_of_le_of_lt (Nat.le_of_dvd (by omega) (Nat.gcd_dvd_right _ _)) h
theorem same_upd {H H' : Hp} {x dx C : Addr} (nx : H x = none) (nd : H dx = none) (hk : ∀ b o, (upd (upd H dx (.own x)) x (.ins C dx [])) b = some o → b ≠ x → H' b = some o) : Same H H' :=
  fun b o e => hk b o (same_make nx nd b o e) (ne_of_none e nx)
def spInit (C B : Addr) : Sp := fun vs H Q E => ∃ (p dx : Addr) (num den : Int), vs = [.ref p, .int num, .int den] ∧ H p = some (.ins C dx []) ∧ Sm 1300 num ∧ Sm 1300 den ∧
  (den ≤ 0 → E (.ref B) none H) ∧ (0 < den → ∀ H', RV C H' p (fr num den) → (∀ b o, H b = some o → b ≠ p → H' b = some o) → Q .non H')
def Good0 (x : Bq) : Prop := 0 ≤ x.a ∧ 0 ≤ x.b ∧ 0 ≤ x.c ∧ ∀ l, x.lim = some l → 0 ≤ l
def spBInit (CB CR B : Addr) : Sp := fun vs H Q E => ∃ (p dx a b c : Addr) (x : Bq), vs = [.ref p, .ref a, .ref b, .ref c, lV x.lim] ∧ H p = some (.ins CB dx []) ∧ RV CR H a x.a ∧ RV CR H b x.b ∧ RV CR H c x.c ∧
  (¬ Good0 x → E (.ref B) none H) ∧ (Good0 x → ∀ H', BV CB CR H' p x → (∀ b o, H b = some o → b ≠ p → H' b = some o) → Q .non H')
def spNothing (CB CR : Addr) : Sp := fun vs H Q _ => vs = [] ∧ ∀ (p : Addr) (H' : Hp), Same H H' → BV CB CR H' p Bq.zero → Q (.ref p) H'
set_option genInjectivity false in
set_option genSizeOf false in
set_option genSizeOfSpec false in
structure Txt (K : PySem.W.Frag) (mg : Str → Option Value) (file : Str) where
  o_n : PySem.W.specialIn K (.builtin "object.__class__") "__get__" = some (some (.builtin "getset_descriptor.__get__"))
  o_t : PySem.W.takesIn K (.builtin "object.__class__") = some true
  C_Ratio : Addr
  g_Ratio : mg "Ratio" = some (.ref C_Ratio)
  cl_Ratio : Cls K C_Ratio
  sf_Ratio : PySem.W.selfFirst K C_Ratio = true
  na_Ratio_num : NoAttr K C_Ratio "num"
  na_Ratio_den : NoAttr K C_Ratio "den"
  C_Bound : Addr
  g_Bound : mg "Bound" = some (.ref C_Bound)
  cl_Bound : Cls K C_Bound
  sf_Bound : PySem.W.selfFirst K C_Bound = true
  na_Bound_flat : NoAttr K C_Bound "flat"
  na_Bound_first : NoAttr K C_Bound "first"
  na_Bound_more : NoAttr K C_Bound "more"
  na_Bound_limit : NoAttr K C_Bound "limit"
  C_Game : Addr
  g_Game : mg "Game" = some (.ref C_Game)
  cl_Game : Cls K C_Game
  sf_Game : PySem.W.selfFirst K C_Game = true
  na_Game_variables : NoAttr K C_Game "variables"
  na_Game_tables : NoAttr K C_Game "tables"
  na_Game_lots : NoAttr K C_Game "lots"
  na_Game_procs : NoAttr K C_Game "procs"
  ia_Game : PySem.W.findIn K (.ref C_Game) "__class__" = some (some (.builtin "object.__class__"))
  im_Game : PySem.W.mroIn K C_Game (.type "object") = some true
  ik_Game : PySem.W.kitOne K (.ref C_Game) (.ref C_Game) = some true
  C_Derivation : Addr
  g_Derivation : mg "Derivation" = some (.ref C_Derivation)
  cl_Derivation : Cls K C_Derivation
  sf_Derivation : PySem.W.selfFirst K C_Derivation = true
  na_Derivation_first : NoAttr K C_Derivation "first"
  na_Derivation_last : NoAttr K C_Derivation "last"
  na_Derivation_bound : NoAttr K C_Derivation "bound"
  a_Ratio_init : Addr
  fd_Ratio_init : FuncData
  F_Ratio_init : FunD K "__init__" "Ratio.__init__" (defArgs s_Ratio_init) (defBody s_Ratio_init) (defScope s_Ratio_init) [.int 1] [] a_Ratio_init fd_Ratio_init
  ds0_Ratio_init : List Value
  dv0_Ratio_init : Vals [.int 1] ds0_Ratio_init
  db0_Ratio_init : L2.Binds K fd_Ratio_init ["self", "num", "den"] ds0_Ratio_init
  b_Ratio_init : L2.Binds K fd_Ratio_init ["self", "num", "den"] []
  k_Ratio_init : PySem.W.keepIn K (.ref a_Ratio_init) = true
  m_Ratio_init : Meth K C_Ratio "__init__" a_Ratio_init
  a_Bound_init : Addr
  fd_Bound_init : FuncData
  F_Bound_init : FunD K "__init__" "Bound.__init__" (defArgs s_Bound_init) (defBody s_Bound_init) (defScope s_Bound_init) [.non] [] a_Bound_init fd_Bound_init
  ds0_Bound_init : List Value
  dv0_Bound_init : Vals [.non] ds0_Bound_init
  db0_Bound_init : L2.Binds K fd_Bound_init ["self", "flat", "first", "more", "limit"] ds0_Bound_init
  b_Bound_init : L2.Binds K fd_Bound_init ["self", "flat", "first", "more", "limit"] []
  k_Bound_init : PySem.W.keepIn K (.ref a_Bound_init) = true
  m_Bound_init : Meth K C_Bound "__init__" a_Bound_init
  a_nothing : Addr
  fd_nothing : FuncData
  F_nothing : Fun K "nothing" "nothing" s_nothing a_nothing fd_nothing
  b_nothing : L2.Binds K fd_nothing [] []
  k_nothing : PySem.W.keepIn K (.ref a_nothing) = true
  g_nothing : mg "nothing" = some (.ref a_nothing)
  a_Game_init : Addr
  fd_Game_init : FuncData
  F_Game_init : Fun K "__init__" "Game.__init__" s_Game_init a_Game_init fd_Game_init
  b_Game_init : L2.Binds K fd_Game_init ["self", "variables", "tables", "lots", "procs"] []
  k_Game_init : PySem.W.keepIn K (.ref a_Game_init) = true
  m_Game_init : Meth K C_Game "__init__" a_Game_init
  a_Game_eq : Addr
  fd_Game_eq : FuncData
  F_Game_eq : Fun K "__eq__" "Game.__eq__" s_Game_eq a_Game_eq fd_Game_eq
  b_Game_eq : L2.Binds K fd_Game_eq ["self", "other"] []
  k_Game_eq : PySem.W.keepIn K (.ref a_Game_eq) = true
  m_Game_eq : Meth K C_Game "__eq__" a_Game_eq
  a_changed_block : Addr
  fd_changed_block : FuncData
  F_changed_block : Fun K "changed_block" "changed_block" s_changed_block a_changed_block fd_changed_block
  b_changed_block : L2.Binds K fd_changed_block ["block", "change"] []
  k_changed_block : PySem.W.keepIn K (.ref a_changed_block) = true
  g_changed_block : mg "changed_block" = some (.ref a_changed_block)
  a_with_changed_blocks : Addr
  fd_with_changed_blocks : FuncData
  F_with_changed_blocks : Fun K "with_changed_blocks" "with_changed_blocks" s_with_changed_blocks a_with_changed_blocks fd_with_changed_blocks
  b_with_changed_blocks : L2.Binds K fd_with_changed_blocks ["statement", "change"] []
  k_with_changed_blocks : PySem.W.keepIn K (.ref a_with_changed_blocks) = true
  g_with_changed_blocks : mg "with_changed_blocks" = some (.ref a_with_changed_blocks)
  a_with_changed_statements : Addr
  fd_with_changed_statements : FuncData
  F_with_changed_statements : Fun K "with_changed_statements" "with_changed_statements" s_with_changed_statements a_with_changed_statements fd_with_changed_statements
  b_with_changed_statements : L2.Binds K fd_with_changed_statements ["game", "change"] []
  k_with_changed_statements : PySem.W.keepIn K (.ref a_with_changed_statements) = true
  g_with_changed_statements : mg "with_changed_statements" = some (.ref a_with_changed_statements)
  a_without_inner : Addr
  fd_without_inner : FuncData
  F_without_inner : Fun K "without_inner" "without_inner" s_without_inner a_without_inner fd_without_inner
  b_without_inner : L2.Binds K fd_without_inner ["statement"] []
  k_without_inner : PySem.W.keepIn K (.ref a_without_inner) = true
  g_without_inner : mg "without_inner" = some (.ref a_without_inner)
  a_until_bad : Addr
  fd_until_bad : FuncData
  F_until_bad : Fun K "until_bad" "until_bad" s_until_bad a_until_bad fd_until_bad
  b_until_bad : L2.Binds K fd_until_bad ["game"] []
  k_until_bad : PySem.W.keepIn K (.ref a_until_bad) = true
  g_until_bad : mg "until_bad" = some (.ref a_until_bad)
  a_alike : Addr
  fd_alike : FuncData
  F_alike : Fun K "alike" "alike" s_alike a_alike fd_alike
  b_alike : L2.Binds K fd_alike ["game", "other"] []
  k_alike : PySem.W.keepIn K (.ref a_alike) = true
  g_alike : mg "alike" = some (.ref a_alike)
  a_Derivation_init : Addr
  fd_Derivation_init : FuncData
  F_Derivation_init : Fun K "__init__" "Derivation.__init__" s_Derivation_init a_Derivation_init fd_Derivation_init
  b_Derivation_init : L2.Binds K fd_Derivation_init ["self", "game"] []
  k_Derivation_init : PySem.W.keepIn K (.ref a_Derivation_init) = true
  m_Derivation_init : Meth K C_Derivation "__init__" a_Derivation_init
  a_Derivation_step : Addr
  fd_Derivation_step : FuncData
  F_Derivation_step : Fun K "step" "Derivation.step" s_Derivation_step a_Derivation_step fd_Derivation_step
  b_Derivation_step : L2.Binds K fd_Derivation_step ["self", "step"] []
  k_Derivation_step : PySem.W.keepIn K (.ref a_Derivation_step) = true
  m_Derivation_step : Meth K C_Derivation "step" a_Derivation_step
  a_behind : Addr
  fd_behind : FuncData
  F_behind : Fun K "behind" "behind" s_behind a_behind fd_behind
  b_behind : L2.Binds K fd_behind ["game", "step"] []
  k_behind : PySem.W.keepIn K (.ref a_behind) = true
  g_behind : mg "behind" = some (.ref a_behind)
  a_behind_until : Addr
  fd_behind_until : FuncData
  F_behind_until : Fun K "behind_until" "behind_until" s_behind_until a_behind_until fd_behind_until
  b_behind_until : L2.Binds K fd_behind_until ["game", "step"] []
  k_behind_until : PySem.W.keepIn K (.ref a_behind_until) = true
  g_behind_until : mg "behind_until" = some (.ref a_behind_until)
  a_law_pool : Addr
  fd_law_pool : FuncData
  F_law_pool : Fun K "_law_pool" "_law_pool" s_law_pool a_law_pool fd_law_pool
  b_law_pool : L2.Binds K fd_law_pool ["script", "budget"] []
  k_law_pool : PySem.W.keepIn K (.ref a_law_pool) = true
  g_law_pool : mg "_law_pool" = some (.ref a_law_pool)
  a_law_draw : Addr
  fd_law_draw : FuncData
  F_law_draw : Fun K "_law_draw" "_law_draw" s_law_draw a_law_draw fd_law_draw
  b_law_draw : L2.Binds K fd_law_draw ["pool", "size"] []
  k_law_draw : PySem.W.keepIn K (.ref a_law_draw) = true
  g_law_draw : mg "_law_draw" = some (.ref a_law_draw)
  a_law_spend : Addr
  fd_law_spend : FuncData
  F_law_spend : Fun K "_law_spend" "_law_spend" s_law_spend a_law_spend fd_law_spend
  b_law_spend : L2.Binds K fd_law_spend ["pool"] []
  k_law_spend : PySem.W.keepIn K (.ref a_law_spend) = true
  g_law_spend : mg "_law_spend" = some (.ref a_law_spend)
  a_law_number : Addr
  fd_law_number : FuncData
  F_law_number : Fun K "_law_number" "_law_number" s_law_number a_law_number fd_law_number
  b_law_number : L2.Binds K fd_law_number ["pool"] []
  k_law_number : PySem.W.keepIn K (.ref a_law_number) = true
  g_law_number : mg "_law_number" = some (.ref a_law_number)
  a_law_same : Addr
  fd_law_same : FuncData
  F_law_same : Fun K "_law_same" "_law_same" s_law_same a_law_same fd_law_same
  b_law_same : L2.Binds K fd_law_same ["actual", "due"] []
  k_law_same : PySem.W.keepIn K (.ref a_law_same) = true
  g_law_same : mg "_law_same" = some (.ref a_law_same)
  a_law_expression : Addr
  fd_law_expression : FuncData
  F_law_expression : Fun K "_law_expression" "_law_expression" s_law_expression a_law_expression fd_law_expression
  b_law_expression : L2.Binds K fd_law_expression ["pool", "scope", "deep"] []
  k_law_expression : PySem.W.keepIn K (.ref a_law_expression) = true
  g_law_expression : mg "_law_expression" = some (.ref a_law_expression)
  a_law_statement : Addr
  fd_law_statement : FuncData
  F_law_statement : Fun K "_law_statement" "_law_statement" s_law_statement a_law_statement fd_law_statement
  b_law_statement : L2.Binds K fd_law_statement ["pool", "scope", "room"] []
  k_law_statement : PySem.W.keepIn K (.ref a_law_statement) = true
  g_law_statement : mg "_law_statement" = some (.ref a_law_statement)
  a_law_block : Addr
  fd_law_block : FuncData
  F_law_block : Fun K "_law_block" "_law_block" s_law_block a_law_block fd_law_block
  b_law_block : L2.Binds K fd_law_block ["pool", "scope", "room", "most"] []
  k_law_block : PySem.W.keepIn K (.ref a_law_block) = true
  g_law_block : mg "_law_block" = some (.ref a_law_block)
  a_law_game : Addr
  fd_law_game : FuncData
  F_law_game : Fun K "_law_game" "_law_game" s_law_game a_law_game fd_law_game
  b_law_game : L2.Binds K fd_law_game ["pool", "wide", "ways"] []
  k_law_game : PySem.W.keepIn K (.ref a_law_game) = true
  g_law_game : mg "_law_game" = some (.ref a_law_game)
  a_law_value_named : Addr
  fd_law_value_named : FuncData
  F_law_value_named : Fun K "_law_value_named" "_law_value_named" s_law_value_named a_law_value_named fd_law_value_named
  b_law_value_named : L2.Binds K fd_law_value_named ["due", "kind", "old", "new"] []
  k_law_value_named : PySem.W.keepIn K (.ref a_law_value_named) = true
  g_law_value_named : mg "_law_value_named" = some (.ref a_law_value_named)
  a_law_block_named : Addr
  fd_law_block_named : FuncData
  F_law_block_named : Fun K "_law_block_named" "_law_block_named" s_law_block_named a_law_block_named fd_law_block_named
  b_law_block_named : L2.Binds K fd_law_block_named ["block", "kind", "old", "new"] []
  k_law_block_named : PySem.W.keepIn K (.ref a_law_block_named) = true
  g_law_block_named : mg "_law_block_named" = some (.ref a_law_block_named)
  a_law_named : Addr
  fd_law_named : FuncData
  F_law_named : Fun K "_law_named" "_law_named" s_law_named a_law_named fd_law_named
  b_law_named : L2.Binds K fd_law_named ["game", "kind", "old", "new"] []
  k_law_named : PySem.W.keepIn K (.ref a_law_named) = true
  g_law_named : mg "_law_named" = some (.ref a_law_named)
  a_law_rows : Addr
  fd_law_rows : FuncData
  F_law_rows : Fun K "_law_rows" "_law_rows" s_law_rows a_law_rows fd_law_rows
  b_law_rows : L2.Binds K fd_law_rows ["game"] []
  k_law_rows : PySem.W.keepIn K (.ref a_law_rows) = true
  g_law_rows : mg "_law_rows" = some (.ref a_law_rows)
  a_law_procs : Addr
  fd_law_procs : FuncData
  F_law_procs : Fun K "_law_procs" "_law_procs" s_law_procs a_law_procs fd_law_procs
  b_law_procs : L2.Binds K fd_law_procs ["game"] []
  k_law_procs : PySem.W.keepIn K (.ref a_law_procs) = true
  g_law_procs : mg "_law_procs" = some (.ref a_law_procs)
  a_law_within : Addr
  fd_law_within : FuncData
  F_law_within : Fun K "_law_within" "_law_within" s_law_within a_law_within fd_law_within
  b_law_within : L2.Binds K fd_law_within ["block"] []
  k_law_within : PySem.W.keepIn K (.ref a_law_within) = true
  g_law_within : mg "_law_within" = some (.ref a_law_within)
  a_law_until : Addr
  fd_law_until : FuncData
  F_law_until : Fun K "_law_until" "_law_until" s_law_until a_law_until fd_law_until
  b_law_until : L2.Binds K fd_law_until ["made", "other"] []
  k_law_until : PySem.W.keepIn K (.ref a_law_until) = true
  g_law_until : mg "_law_until" = some (.ref a_law_until)
  a_law : Addr
  fd_law : FuncData
  F_law : Fun K "law" "law" s_law a_law fd_law
  b_law : L2.Binds K fd_law ["script"] []
  k_law : PySem.W.keepIn K (.ref a_law) = true
  g_law : mg "law" = some (.ref a_law)
  mk_Ratio : Mk K C_Ratio a_Ratio_init
  mk_Bound : Mk K C_Bound a_Bound_init
  mk_Game : Mk K C_Game a_Game_init
  mk_Derivation : Mk K C_Derivation a_Derivation_init
  C_BadStep : Addr
  g_BadStep : mg "BadStep" = some (.ref C_BadStep)
  kc_BadStep : PySem.W.keepIn K (.ref C_BadStep) = true
  xb_BadStep : PySem.W.subIn K (.ref C_BadStep) (.type "BaseException") = some true
  xt_BadStep : PySem.W.typeIn K (.ref C_BadStep) = some (.type "type")
  xd_BadStep : PySem.W.hasDictIn K C_BadStep = true
  a_BadStep_init : Addr
  fd_BadStep_init : FuncData
  E_BadStep : ErrF K mg C_BadStep a_BadStep_init fd_BadStep_init "BadStep.__init__" s_BadStep_init file "rule"
  b_BadStep_init : L2.Binds K fd_BadStep_init [("self" : Str), "rule"] []
  z_super : mg "super" = none
  C_BadBound : Addr
  g_BadBound : mg "BadBound" = some (.ref C_BadBound)
  kc_BadBound : PySem.W.keepIn K (.ref C_BadBound) = true
  xb_BadBound : PySem.W.subIn K (.ref C_BadBound) (.type "BaseException") = some true
  xt_BadBound : PySem.W.typeIn K (.ref C_BadBound) = some (.type "type")
  xd_BadBound : PySem.W.hasDictIn K C_BadBound = true
  x_BadBound : PySem.W.excIn K C_BadBound [.type "ValueError", .type "Exception", .type "BaseException", .type "object"] "ValueError.__new__" = true
  z_len : mg "len" = none
  z_range : mg "range" = none
  z_int : mg "int" = none
  z_tuple : mg "tuple" = none
  z_list : mg "list" = none
  z_isinstance : mg "isinstance" = none
  z_min : mg "min" = none
  z_bool : mg "bool" = none
  z_str : mg "str" = none
  g_gcd : mg "gcd" = some (.builtin "math.gcd")
  cda_until_bad : Addr
  tb_until_bad : Addr
  qc_until_bad : fd_until_bad.code = .ref cda_until_bad
  ec_BadStep : ExcC K C_BadStep
  xga_BadStep : PySem.W.findIn K (.ref C_BadStep) "__getattribute__" = some (some (.builtin "BaseException.__getattribute__"))
  xgg_BadStep : PySem.W.findIn K (.ref C_BadStep) "__getattr__" = some none
  sub_ss : PySem.W.subIn K (.ref C_BadStep) (.ref C_BadStep) = some true
section
variable {P : Program} {w : World} {K : PySem.W.Frag} {mg : Str → Option Value} {base : Heap} {file : Str}
theorem ok_init (T : Txt K mg file) : FnOk P w K mg base (L2.CX P w) 1 T.a_Ratio_init T.fd_Ratio_init ["self", "num", "den"] (spInit T.C_Ratio T.C_BadBound) := by
  refine T.F_Ratio_init.ok sc_Ratio_init (fun vs H Q E h => ?_) (fun cdv A outer s H vs Q E hr h => ?_)
  · obtain ⟨p, dx, n, d, rfl, _⟩ := h
    rfl
  obtain ⟨p, dx, n, d, rfl, hp, hn, hd, kB, kG⟩ := h
  refine ⟨_, (pss_cons (ps_if (pt_cmpR op_le (pv 2) pe_int (nomark _))
      (pss_one (ps_raise rfl (takes_of rfl rfl rfl rfl) (pmk_own PySem.F.excBase_ValueError T.x_BadBound T.g_BadBound T.kc_BadBound (raises_own T.xb_BadBound T.xt_BadBound) rfl)))
      pss_nil)
    (pss_cons (ps_set (i := 3) sc_Ratio_init.nd rfl (Or.inl rfl) (pe_callBfun cr_gcd rfl T.g_gcd (pa_cons (pv 1) (pa_cons (pv 2) pa_nil))))
    (pss_cons (ps_fld (pv 0) (pe_op op_fdivW (pv 1) (pv 3)) rfl)
    (pss_one (ps_fld (pv 0) (pe_op op_fdivW (pv 2) (pv 3)) rfl))))), ?_⟩
  refine ⟨_, rfl, _, _, rfl, rfl, _, rfl, ?_⟩
  refine ite2 (fun c => ?_) (fun c => ?_)
  · exact kB (of_decide_eq_true c)
  have c' : 0 < d := by
    have := of_decide_eq_false (Bool.eq_false_iff.mpr c)
    omega
  have gp : (0 : Int) < ((Nat.gcd n.natAbs d.natAbs : Nat) : Int) := by
    have := gcd_pos (n := n) c'
    omega
  refine ⟨_, rfl, _, rfl, _, _, rfl, ?_⟩
  refine ⟨_, rfl, _, rfl, _, _, rfl, rfl, cdiv gp (sm_gcd c' hd), _, rfl, p, T.C_Ratio, dx, [], rfl, hp, T.cl_Ratio, T.na_Ratio_num, (by show 0 < 1000; decide), ?_⟩
  refine ⟨_, rfl, _, rfl, _, _, rfl, rfl, cdiv gp (sm_gcd c' hd), _, rfl, p, T.C_Ratio, dx, _, rfl, upd_same, T.cl_Ratio, T.na_Ratio_den, (by show 1 < 1000; decide), ?_⟩
  refine kG c' _ ⟨dx, ?_⟩ fun b o e hb => ?_
  · rw [upd_same]
    unfold rf
    rw [← red_num c', ← red_den c']
    rfl
  rw [upd_ne hb, upd_ne hb]
  exact e
theorem ok_binit (T : Txt K mg file) : FnOk P w K mg base (L2.CX P w) 1 T.a_Bound_init T.fd_Bound_init ["self", "flat", "first", "more", "limit"] (spBInit T.C_Bound T.C_Ratio T.C_BadBound) := by
  refine T.F_Bound_init.ok sc_Bound_init (fun vs H Q E h => ?_) (fun cdv A outer s H vs Q E hr h => ?_)
  · obtain ⟨p, dx, a, b, c, x, rfl, _⟩ := h
    rfl
  obtain ⟨p, dx, a, b, c, x, rfl, hp, ⟨da, ha⟩, ⟨db, hb⟩, ⟨dc, hc⟩, kB, kG⟩ := h
  refine ⟨_, (pss_cons (ps_if (PW.pt (pw_or (pt_cmpR op_lt (pe_fld (pv 1) rfl) pe_int (nomark _)) (pw_or (pt_cmpR op_lt (pe_fld (pv 2) rfl) pe_int (nomark _)) (pw_or1 (pt_cmpR op_lt (pe_fld (pv 3) rfl) pe_int (nomark _))))))
      (pss_one (ps_raise rfl (takes_of rfl rfl rfl rfl) (pmk_own PySem.F.excBase_ValueError T.x_BadBound T.g_BadBound T.kc_BadBound (raises_own T.xb_BadBound T.xt_BadBound) rfl)))
      pss_nil)
    (pss_cons (ps_if (PW.pt (pw_and (pt_cmpR op_notN (pv 4) pe_non (nomark _)) (pw_and1 (pt_cmpR op_lt (pv 4) pe_int (nomark _)))))
      (pss_one (ps_raise rfl (takes_of rfl rfl rfl rfl) (pmk_own PySem.F.excBase_ValueError T.x_BadBound T.g_BadBound T.kc_BadBound (raises_own T.xb_BadBound T.xt_BadBound) rfl)))
      pss_nil)
    (pss_cons (ps_fld (pv 0) (pv 1) rfl)
    (pss_cons (ps_fld (pv 0) (pv 2) rfl)
    (pss_cons (ps_fld (pv 0) (pv 3) rfl)
    (pss_one (ps_fld (pv 0) (pv 4) rfl))))))), ?_⟩
  have n1 := T.na_Ratio_num
  refine ⟨_, rfl, a, _, da, _, _, rfl, ha, T.cl_Ratio, n1, rf_num _, _, _, rfl, rfl, _, rfl, ite2 (fun z => ?_) (fun z1 => ?_)⟩
  · exact kB fun g => absurd g.1 (Rat.not_le.mpr (num_neg.mp (of_decide_eq_true z)))
  refine ⟨_, rfl, b, _, db, _, _, rfl, hb, T.cl_Ratio, n1, rf_num _, _, _, rfl, rfl, _, rfl, ite2 (fun z => ?_) (fun z2 => ?_)⟩
  · exact kB fun g => absurd g.2.1 (Rat.not_le.mpr (num_neg.mp (of_decide_eq_true z)))
  refine ⟨_, rfl, c, _, dc, _, _, rfl, hc, T.cl_Ratio, n1, rf_num _, _, _, rfl, rfl, _, rfl, ite2 (fun z => ?_) (fun z3 => ?_)⟩
  · exact kB fun g => absurd g.2.2.1 (Rat.not_le.mpr (num_neg.mp (of_decide_eq_true z)))
  have nn : ∀ q : Rat, ¬ decide (q.num < 0) = true → 0 ≤ q := fun q z => Rat.not_lt.mp fun y => z (decide_eq_true (num_neg.mpr y))
  have g1 := nn _ z1
  have g2 := nn _ z2
  have g3 := nn _ z3
  have fin : Good0 x → ∀ (Hn : Hp), Hn = upd (upd (upd (upd H p (.ins T.C_Bound dx (putF "flat" (.ref a) []))) p (.ins T.C_Bound dx (putF "first" (.ref b) (putF "flat" (.ref a) [])))) p (.ins T.C_Bound dx (putF "more" (.ref c) (putF "first" (.ref b) (putF "flat" (.ref a) []))))) p (.ins T.C_Bound dx (bf a b c (lV x.lim))) → Q .non Hn := by
    intro g Hn e
    subst e
    have np : ∀ {y dy fs}, H y = some (HO.ins T.C_Ratio dy (rf fs)) → y ≠ p := fun {y dy fs} hy z => by
      rw [z, hp] at hy
      have e1 := (HO.ins.inj (Option.some.inj hy)).2.2
      have e2 := rf_num fs
      rw [← e1] at e2
      exact absurd e2 (by simp)
    refine kG g _ ⟨dx, a, b, c, upd_same, ⟨da, ?_⟩, ⟨db, ?_⟩, ⟨dc, ?_⟩⟩ fun y o e hy => ?_
    · rw [upd_ne (np ha), upd_ne (np ha), upd_ne (np ha), upd_ne (np ha)]; exact ha
    · rw [upd_ne (np hb), upd_ne (np hb), upd_ne (np hb), upd_ne (np hb)]; exact hb
    · rw [upd_ne (np hc), upd_ne (np hc), upd_ne (np hc), upd_ne (np hc)]; exact hc
    · rw [upd_ne hy, upd_ne hy, upd_ne hy, upd_ne hy]; exact e
  cases hl : x.lim with
  | none =>
    refine ⟨_, rfl, rfl, _, rfl, ite_no (by simp [lV]) ?_⟩
    have g : Good0 x := ⟨g1, g2, g3, fun l z => by rw [hl] at z; cases z⟩
    exact ⟨_, rfl, _, rfl, p, T.C_Bound, dx, [], rfl, hp, T.cl_Bound, T.na_Bound_flat, (by show 0 < 1000; decide),
      _, rfl, _, rfl, p, T.C_Bound, dx, _, rfl, upd_same, T.cl_Bound, T.na_Bound_first, (by show 1 < 1000; decide),
      _, rfl, _, rfl, p, T.C_Bound, dx, _, rfl, upd_same, T.cl_Bound, T.na_Bound_more, (by show 2 < 1000; decide),
      _, rfl, _, rfl, p, T.C_Bound, dx, _, rfl, upd_same, T.cl_Bound, T.na_Bound_limit, (by show 3 < 1000; decide), fin g _ (by rw [hl]; rfl)⟩
  | some l =>
    refine ⟨_, rfl, rfl, _, rfl, ite_yes (by simp [lV]) ?_⟩
    refine ⟨_, rfl, _, _, rfl, rfl, _, rfl, ite2 (fun z => ?_) (fun z => ?_)⟩
    · exact kB fun g => absurd (g.2.2.2 l hl) (by have := of_decide_eq_true z; omega)
    · have z' : 0 ≤ l := by
        have := of_decide_eq_false (Bool.eq_false_iff.mpr z)
        omega
      have g : Good0 x := ⟨g1, g2, g3, fun m y => by rw [hl] at y; cases y; exact z'⟩
      exact ⟨_, rfl, _, rfl, p, T.C_Bound, dx, [], rfl, hp, T.cl_Bound, T.na_Bound_flat, (by show 0 < 1000; decide),
      _, rfl, _, rfl, p, T.C_Bound, dx, _, rfl, upd_same, T.cl_Bound, T.na_Bound_first, (by show 1 < 1000; decide),
      _, rfl, _, rfl, p, T.C_Bound, dx, _, rfl, upd_same, T.cl_Bound, T.na_Bound_more, (by show 2 < 1000; decide),
      _, rfl, _, rfl, p, T.C_Bound, dx, _, rfl, upd_same, T.cl_Bound, T.na_Bound_limit, (by show 3 < 1000; decide), fin g _ (by rw [hl]; rfl)⟩
theorem ok_nothing (T : Txt K mg file) : FnOk P w K mg base CX0 3 T.a_nothing T.fd_nothing [] (spNothing T.C_Bound T.C_Ratio) := by
  have G_Ratio_init : FnOk P w K mg base (L2.CX P w) 1 T.a_Ratio_init T.fd_Ratio_init ["self", "num", "den"] (spInit T.C_Ratio T.C_BadBound) := ok_init T
  have G_Bound_init : FnOk P w K mg base (L2.CX P w) 1 T.a_Bound_init T.fd_Bound_init ["self", "flat", "first", "more", "limit"] (spBInit T.C_Bound T.C_Ratio T.C_BadBound) := ok_binit T
  refine T.F_nothing.ok sc_nothing (fun vs H Q E h => ?_) (fun cdv A outer s H vs Q E hr h => ?_)
  · obtain ⟨rfl, _⟩ := h
    rfl
  obtain ⟨rfl, k⟩ := h
  refine ⟨_, (pss_one (ps_ret (pe_make T.mk_Bound G_Bound_init (hr.mono (by decide)) rfl T.g_Bound T.db0_Bound_init T.dv0_Bound_init passL (pa_cons (pe_make T.mk_Ratio G_Ratio_init (hr.mono (by decide)) rfl T.g_Ratio T.db0_Ratio_init T.dv0_Ratio_init passL (pa_cons pe_int pa_nil)) (pa_cons (pe_make T.mk_Ratio G_Ratio_init (hr.mono (by decide)) rfl T.g_Ratio T.db0_Ratio_init T.dv0_Ratio_init passL (pa_cons pe_int pa_nil)) (pa_cons (pe_make T.mk_Ratio G_Ratio_init (hr.mono (by decide)) rfl T.g_Ratio T.db0_Ratio_init T.dv0_Ratio_init passL (pa_cons pe_int pa_nil)) pa_nil)))))), ?_⟩
  intro x1 d1 nx1 nd1 ne1
  refine ⟨x1, d1, 0, 1, rfl, upd_same, by decide, by decide, fun z => absurd z (by decide), fun _ H1 R1 k1 => ⟨rfl, ?_⟩⟩
  have m1 := same_upd nx1 nd1 k1
  intro x2 d2 nx2 nd2 ne2
  refine ⟨x2, d2, 0, 1, rfl, upd_same, by decide, by decide, fun z => absurd z (by decide), fun _ H2 R2 k2 => ⟨rfl, ?_⟩⟩
  have m2 := same_upd nx2 nd2 k2
  intro x3 d3 nx3 nd3 ne3
  refine ⟨x3, d3, 0, 1, rfl, upd_same, by decide, by decide, fun z => absurd z (by decide), fun _ H3 R3 k3 => ⟨rfl, ?_⟩⟩
  have m3 := same_upd nx3 nd3 k3
  have e0 : fr 0 1 = 0 := fr_int 0
  rw [e0] at R1 R2 R3
  intro x4 d4 nx4 nd4 ne4
  have m4 := same_make nx4 nd4 (C := T.C_Bound)
  refine ⟨x4, d4, x1, x2, x3, Bq.zero, rfl, upd_same, (R1.same (m2.trans m3)).same m4, (R2.same m3).same m4, R3.same m4, fun z => absurd ⟨Rat.le_refl, Rat.le_refl, Rat.le_refl, fun l y => nomatch y⟩ z, fun _ H4 B4 k4 => ⟨rfl, ?_⟩⟩
  exact k x4 H4 (m1.trans (m2.trans (m3.trans (same_upd nx4 nd4 k4)))) B4
end
end Toy
set_option Elab.async false
set_option linter.all false
set_option maxRecDepth 100000
set_option maxHeartbeats 4000000
namespace Toy
open PySem L2 NdefX Gm
open Mine hiding same_new
theorem units65 {k : Nat} {A : Around} (hr : Room k A) : A.units + 65 < cLine := by have := hr.un; omega
/-- a step in the heap: its parts -/
def StA (K : PySem.W.Frag) (H : Hp) (v : V) (xs : List V) : Prop := ∃ a : Addr, v = .ref a ∧ SqT K H a xs
theorem StA.same {K : PySem.W.Frag} {H H' : Hp} {v : V} {xs : List V} (h : StA K H v xs) (s : Same H H') : StA K H' v xs := let ⟨a, e, h⟩ := h; ⟨a, e, sqT_mono s h⟩
/-- BadStep with a rule goes out -/
def Rf (B : Addr) (r : Str) (H : Hp) (E : XK) : Prop := ∀ (d : Addr) (H' : Hp), Same H H' → H' d = some (.xd [("rule", .str r)]) → E (.ref B) (some d) H'
theorem Rf.same {B : Addr} {r : Str} {H H' : Hp} {E : XK} (h : Rf B r H E) (s : Same H H') : Rf B r H' E := fun d H2 m e => h d H2 (s.trans m) e
def spGInit (C : Addr) : Sp := fun vs H Q _ => ∃ (p dx : Addr) (a b c d : V), vs = [.ref p, a, b, c, d] ∧ H p = some (.ins C dx []) ∧ ∀ H', H' p = some (.ins C dx (gf a b c d)) → (∀ x o, H x = some o → x ≠ p → H' x = some o) → Q .non H'
def spGEq (K : PySem.W.Frag) (C : Addr) : Sp := fun vs H Q _ => ∃ (g h : Addr) (G F : Ga) (k d k' d' : Nat), vs = [.ref g, .ref h] ∧ GmD K C H g G ∧ GmD K C H h F ∧ GaF k d G ∧ GaF k' d' F ∧ k + 2 * d ≤ 59 ∧ k' + 2 * d' ≤ 59 ∧ ∀ b : Bool, (b = true ↔ G = F) → Q (.bl b) H
section
variable {P : Program} {w : World} {K : PySem.W.Frag} {mg : Str → Option Value} {base : Heap} {file : Str}
theorem ok_ginit (T : Txt K mg file) : FnOk P w K mg base CX0 1 T.a_Game_init T.fd_Game_init ["self", "variables", "tables", "lots", "procs"] (spGInit T.C_Game) := by
  refine T.F_Game_init.ok sc_Game_init (fun vs H Q E h => ?_) (fun cdv A outer s H vs Q E hr h => ?_)
  · obtain ⟨p, dx, a, b, c, d, rfl, _⟩ := h
    rfl
  obtain ⟨p, dx, a, b, c, d, rfl, hp, k⟩ := h
  refine ⟨_, (pss_cons (ps_fld (pv 0) (pv 1) rfl)
    (pss_cons (ps_fld (pv 0) (pv 2) rfl)
    (pss_cons (ps_fld (pv 0) (pv 3) rfl)
    (pss_one (ps_fld (pv 0) (pv 4) rfl))))), ?_⟩
  refine ⟨_, rfl, _, rfl, p, T.C_Game, dx, [], rfl, hp, T.cl_Game, T.na_Game_variables, (by show 0 < 1000; decide), ?_⟩
  refine ⟨_, rfl, _, rfl, p, T.C_Game, dx, _, rfl, upd_same, T.cl_Game, T.na_Game_tables, (by show 1 < 1000; decide), ?_⟩
  refine ⟨_, rfl, _, rfl, p, T.C_Game, dx, _, rfl, upd_same, T.cl_Game, T.na_Game_lots, (by show 2 < 1000; decide), ?_⟩
  refine ⟨_, rfl, _, rfl, p, T.C_Game, dx, _, rfl, upd_same, T.cl_Game, T.na_Game_procs, (by show 3 < 1000; decide), ?_⟩
  refine k _ upd_same fun x o e hx => ?_
  rw [upd_ne hx, upd_ne hx, upd_ne hx, upd_ne hx]
  exact e
theorem fit64 {n : Nat} {d : PyData} (h : Fit n d) (l : n ≤ 64) : SeqAt.shaped d = true := h.shaped l
theorem ok_geq (T : Txt K mg file) : FnOk P w K mg base CX0 1 T.a_Game_eq T.fd_Game_eq ["self", "other"] (spGEq K T.C_Game) := by
  refine T.F_Game_eq.ok sc_Game_eq (fun vs H Q E h => ?_) (fun cdv A outer s H vs Q E hr h => ?_)
  · obtain ⟨g, h, G, F, k, d, k', d', rfl, _⟩ := h
    rfl
  obtain ⟨g, h, G, F, k, d, k', d', rfl, ⟨dx, a1, a2, a3, a4, hg, ga1, ga2, ga3, ga4⟩, ⟨dy, b1, b2, b3, b4, hh, gb1, gb2, gb3, gb4⟩, fG, fF, l1, l2, q⟩ := h
  refine ⟨_, (pss_one (ps_ret (pe_and (pe_callB call_isi (by rfl) T.z_isinstance (by decide +kernel) (pa_cons (pv 1) (pa_cons (pe_glob (v := .ref T.C_Game) rfl T.g_Game rfl) pa_nil))) (pe_and (pe_cmpR (op_eqD hr.units) (pe_fld (pv 0) rfl) (pe_fld (pv 1) rfl) (nomark _)) (pe_and (pe_cmpR (op_eqD hr.units) (pe_fld (pv 0) rfl) (pe_fld (pv 1) rfl) (nomark _)) (pe_and (pe_cmpR (op_eqD hr.units) (pe_fld (pv 0) rfl) (pe_fld (pv 1) rfl) (nomark _)) (pe_one (pe_cmpR (op_eqD hr.units) (pe_fld (pv 0) rfl) (pe_fld (pv 1) rfl) (nomark _))))))))), ?_⟩
  refine ⟨_, rfl, _, _, _, _, true, rfl, .own _, .base (.ins hh T.cl_Game T.ia_Game T.o_n T.o_t T.im_Game), T.ik_Game, true, rfl, iteT ?_⟩
  have c1 := fit_trips (n := 0) fG.vars
  have c2 := fit_trips (n := 0) fG.tabs
  have c3 := fit_trips (n := 0) fG.lots
  have c4 := fit_procs fG.procs
  have e1 := fit_trips (n := 0) fF.vars
  have e2 := fit_trips (n := 0) fF.tabs
  have e3 := fit_trips (n := 0) fF.lots
  have e4 := fit_procs fF.procs
  refine ⟨_, rfl, g, _, dx, _, _, rfl, hg, T.cl_Game, T.na_Game_variables, gf_variables _ _ _ _, _, rfl, h, _, dy, _, _, rfl, hh, T.cl_Game, T.na_Game_variables, gf_variables _ _ _ _, ?_⟩
  refine ⟨_, _, ga1, gb1, fit64 c1 (by omega), fit64 e1 (by omega), _, rfl, ?_⟩
  by_cases z1 : G.vars = F.vars
  case neg => exact ite_no (fun z => z1 (trips_inj ((eqv_iff c1.1 e1.1).mp z))) (q _ ⟨fun z => Bool.noConfusion z, fun z => absurd (congrArg Ga.vars z) z1⟩)
  refine ite_yes ((eqv_iff c1.1 e1.1).mpr (by rw [z1])) ?_
  refine ⟨_, rfl, g, _, dx, _, _, rfl, hg, T.cl_Game, T.na_Game_tables, gf_tables _ _ _ _, _, rfl, h, _, dy, _, _, rfl, hh, T.cl_Game, T.na_Game_tables, gf_tables _ _ _ _, ?_⟩
  refine ⟨_, _, ga2, gb2, fit64 c2 (by omega), fit64 e2 (by omega), _, rfl, ?_⟩
  by_cases z2 : G.tabs = F.tabs
  case neg => exact ite_no (fun z => z2 (trips_inj ((eqv_iff c2.1 e2.1).mp z))) (q _ ⟨fun z => Bool.noConfusion z, fun z => absurd (congrArg Ga.tabs z) z2⟩)
  refine ite_yes ((eqv_iff c2.1 e2.1).mpr (by rw [z2])) ?_
  refine ⟨_, rfl, g, _, dx, _, _, rfl, hg, T.cl_Game, T.na_Game_lots, gf_lots _ _ _ _, _, rfl, h, _, dy, _, _, rfl, hh, T.cl_Game, T.na_Game_lots, gf_lots _ _ _ _, ?_⟩
  refine ⟨_, _, ga3, gb3, fit64 c3 (by omega), fit64 e3 (by omega), _, rfl, ?_⟩
  by_cases z3 : G.lots = F.lots
  case neg => exact ite_no (fun z => z3 (trips_inj ((eqv_iff c3.1 e3.1).mp z))) (q _ ⟨fun z => Bool.noConfusion z, fun z => absurd (congrArg Ga.lots z) z3⟩)
  refine ite_yes ((eqv_iff c3.1 e3.1).mpr (by rw [z3])) ?_
  refine ⟨_, rfl, g, _, dx, _, _, rfl, hg, T.cl_Game, T.na_Game_procs, gf_procs _ _ _ _, _, rfl, h, _, dy, _, _, rfl, hh, T.cl_Game, T.na_Game_procs, gf_procs _ _ _ _, ?_⟩
  refine ⟨_, _, ga4, gb4, fit64 c4 (by omega), fit64 e4 (by omega), q _ ?_⟩
  refine (eqv_iff c4.1 e4.1).trans ⟨fun z => Ga.ext z1 z2 z3 (procs_inj z), fun z => by rw [z]⟩
end
end Toy
set_option Elab.async false
set_option linter.all false
set_option maxRecDepth 100000
set_option maxHeartbeats 4000000
namespace Toy
open PySem L2 NdefX Gm
open Mine hiding same_new
/-- what a change of statements promises -/
def spChg (K : PySem.W.Frag) (W : Stm → Prop) (g : Stm → List Stm) : Sp := fun vs H Q _ => ∃ (v : V) (s : Stm), vs = [v] ∧ Dp K H v s.d ∧ W s ∧ ∀ (u : V) (H' : Hp), Same H H' → Dp K H' u (.tuple ((g s).map Stm.d)) → Q u H'
def spCBg (K : PySem.W.Frag) (C : Hp → Addr → Prop) (g : Stm → List Stm) (k d : Nat) : Sp := fun vs H Q _ => ∃ (v : V) (f : Addr) (b : Blk), vs = [v, .ref f] ∧ C H f ∧ Dp K H v b.d ∧ blF k d b ∧ b.tot ≤ 700 ∧ ∀ (u : V) (H' : Hp), Same H H' → Dp K H' u (b.cb g).d → Q u H'
def spWCBg (K : PySem.W.Frag) (C : Hp → Addr → Prop) (g : Stm → List Stm) (k d : Nat) : Sp := fun vs H Q _ => ∃ (v : V) (f : Addr) (s : Stm), vs = [v, .ref f] ∧ C H f ∧ Dp K H v s.d ∧ stF k d s ∧ s.tot ≤ 700 ∧ ∀ (u : V) (H' : Hp), Same H H' → Dp K H' u (s.cs g).d → Q u H'
def spWCS (K : PySem.W.Frag) (Cg : Addr) (C : Hp → Addr → Prop) (g : Stm → List Stm) (k d : Nat) : Sp := fun vs H Q _ => ∃ (ga f : Addr) (G : Ga), vs = [.ref ga, .ref f] ∧ C H f ∧ GmD K Cg H ga G ∧ G.procs.length ≤ 1000 ∧ (∀ p ∈ G.procs, blF k d p.block ∧ p.block.tot ≤ 700) ∧
  ∀ (g' : Addr) (H' : Hp), Same H H' → GmD K Cg H' g' (G.cb g) → Q (.ref g') H'
section
variable {P : Program} {w : World} {K : PySem.W.Frag} {mg : Str → Option Value} {base : Heap} {file : Str} {C : Hp → Addr → Prop} {W : Stm → Prop} {g : Stm → List Stm} {kf k : Nat}
theorem ok_cbg_step (T : Txt K mg file) (hC : LamP.CallOk P w K mg base kf C (spChg K W g)) (hW : ∀ d s, stF k d s → W (s.cs g)) (hm : ∀ s, (g s).length ≤ 10) (d : Nat) (G_with_changed_blocks : FnOk P w K mg base CX0 (kf + 2 * d + 1) T.a_with_changed_blocks T.fd_with_changed_blocks ["statement", "change"] (spWCBg K C g k d)) :
    FnOk P w K mg base CX0 (kf + 2 * d + 2) T.a_changed_block T.fd_changed_block ["block", "change"] (spCBg K C g k d) := by
  refine T.F_changed_block.ok sc_changed_block (fun vs H Q E h => ?_) (fun cdv A outer s H vs Q E hr h => ?_)
  · obtain ⟨v, f, b, rfl, _⟩ := h
    rfl
  obtain ⟨v, f, b, rfl, hf, dv, fb, ht, q⟩ := h
  refine ⟨_, (pss_cons (ps_set (i := 2) sc_changed_block.nd rfl (Or.inl rfl) (pe_lst pa_nil))
    (pss_cons (ps_for PassesOwn.never rfl (pi_tup (pv 0)) (pg_name (i := 3) sc_changed_block.nd rfl (Or.inl rfl))
      (pss_one (ps_expr (pe_bm PySem.F.plainAttrs_list PySem.F.slot_list_extend PySem.F.type_list_extend (ExtT.mt_extT K rfl) (pv 2) (pa_cons (LamP.pe_callV (i := 1) hC (hr.mono (by omega)) rfl (.inl rfl) (pa_cons (pe_call G_with_changed_blocks (hr.mono (by omega)) rfl T.g_with_changed_blocks T.k_with_changed_blocks T.b_with_changed_blocks .nil pass0 (pa_cons (pv 3) (pa_cons (pv 1) pa_nil))) pa_nil)) pa_nil)))))
    (pss_one (ps_ret (pe_callTy call_tuple_of (by rfl) T.z_tuple (by decide +kernel) (pa_cons (pv 2) pa_nil)))))), ?_⟩
  unfold Blk.d at dv
  obtain ⟨a, xs, rfl, ha, dxs⟩ := dp_inv dv
  rw [Blk.ds_l] at dxs
  have lx : xs.length = b.l.length := (DpAll.len dxs).trans (List.length_map _)
  refine ⟨by show 0 ≤ sizeLine; decide, fun L hL => ?_⟩
  have m0 := same_new hL (.lst [])
  refine ⟨_, rfl, a, rfl, ⟨_, sqT_mono m0 ha⟩, ?_⟩
  refine for_tup (K := K) (a := a) (xs := xs) (fun i σ H' => ∃ (vs : List V) (y : Option V), σ = [some (.ref a), some (.ref f), some (.ref L), y] ∧ Acc K H H' L vs (((b.l.take i).flatMap fun s => g (s.cs g)).map Stm.d)) ⟨[], none, rfl, Acc.start hL⟩ (fun i σ H' _ ⟨_, _, _, ac⟩ => sqT_mono ac.s ha) ?_ ?_
  · rintro i x σ H1 hx ⟨vs, y, rfl, ac⟩
    have hi := (List.getElem?_eq_some_iff.mp hx).1
    obtain ⟨st, es⟩ : ∃ st, b.l[i]? = some st := ⟨b.l[i]'(lx ▸ hi), List.getElem?_eq_getElem _⟩
    obtain ⟨x', ex, dst⟩ := DpAll.get dxs (show (b.l.map Stm.d)[i]? = some st.d by rw [List.getElem?_map, es]; rfl)
    rw [hx] at ex
    cases ex
    have hmm := List.mem_of_getElem? es
    have fst_ := blF.l fb st hmm
    have tst := blk_tot_at hmm
    refine ⟨_, rfl, .inl ⟨rfl, _, SqL.of ac.l⟩, ?_⟩
    refine ⟨f, rfl, hC.mono _ _ _ ac.s hf, _, rfl, _, rfl, x, f, st, rfl, hC.mono _ _ _ ac.s hf, dp_mono ac.s _ _ dst, fst_, by omega, fun u H2 m2 du => ?_⟩
    refine ⟨hC.mono _ _ _ (ac.s.trans m2) hf, u, st.cs g, rfl, du, hW d st fst_, fun u2 H3 m3 du2 => ?_⟩
    obtain ⟨ua, us, rfl, hua, dus⟩ := dp_inv du2
    have ac3 := ac.grow (m2.trans m3)
    have l1 := ac.len
    rw [List.length_map] at l1
    have l2 : ((b.l.take i).flatMap fun s => g (s.cs g)).length ≤ 10 * (b.l.take i).length := flat_le (fun s => hm _) _
    have l3 := DpAll.len dus
    rw [List.length_map] at l3
    have l4 := hm (st.cs g)
    have l5 := l_tot b
    have l6 : (b.l.take i).length ≤ b.l.length := by rw [List.length_take]; omega
    refine ⟨L, ua, _, _, rfl, rfl, ac3.l, hua, Nat.le_trans (show vs.length + us.length ≤ 10000 by omega) (by decide), vs ++ us, _, rfl, ?_⟩
    rw [take_more es, List.flatMap_append, List.map_append, show [st].flatMap (fun s => g (s.cs g)) = g (st.cs g) from by rw [List.flatMap_cons]; exact List.append_nil _]
    exact ac3.ext dus (nolAll_stms _)
  · rintro σ H1 ⟨vs, y, rfl, ac⟩
    rw [lx, List.take_length, ← Blk.cb_l, ← Blk.ds_l] at ac
    refine ⟨_, rfl, L, vs, rfl, .inl ⟨SqL.of ac.l, fun tp htp => ?_⟩⟩
    exact q _ _ (ac.s.trans (same_new htp _)) (dp_tup htp ac.d)
theorem ok_wcbg_step (T : Txt K mg file) (d : Nat) (spB : Sp) (G_changed_block : FnOk P w K mg base CX0 (kf + 2 * d) T.a_changed_block T.fd_changed_block ["block", "change"] spB) (hm_ : ∀ H H' f, Same H H' → C H f → C H' f) (hB : ∀ j, d = j + 1 → ∀ vs H Q E, spCBg K C g k j vs H Q E → spB vs H Q E) :
    FnOk P w K mg base CX0 (kf + 2 * d + 1) T.a_with_changed_blocks T.fd_with_changed_blocks ["statement", "change"] (spWCBg K C g k d) := by
  refine T.F_with_changed_blocks.ok sc_with_changed_blocks (fun vs H Q E h => ?_) (fun cdv A outer s H vs Q E hr h => ?_)
  · obtain ⟨v, f, b, rfl, _⟩ := h
    rfl
  obtain ⟨v, f, x, rfl, hf, dx, fx, ht, q⟩ := h
  refine ⟨_, (pss_cons (ps_if (pt_cmpR op_eq (pe_ix ix_tup (pv 0) pe_int (fun _ _ => rfl)) pe_str (nomark _))
      (pss_cons (ps_asg (pv 0) (pg_tup rfl (pgs_cons (pg_name (i := 2) sc_with_changed_blocks.nd rfl (Or.inl rfl)) (pgs_cons (pg_name (i := 3) sc_with_changed_blocks.nd rfl (Or.inl rfl)) (pgs_cons (pg_name (i := 4) sc_with_changed_blocks.nd rfl (Or.inl rfl)) (pgs_cons (pg_name (i := 5) sc_with_changed_blocks.nd rfl (Or.inl rfl)) pgs_nil))))))
    (pss_one (ps_ret (pe_tup (pa_cons pe_str (pa_cons (pv 3) (pa_cons (pe_call G_changed_block (hr.mono (by omega)) rfl T.g_changed_block T.k_changed_block T.b_changed_block .nil pass0 (pa_cons (pv 4) (pa_cons (pv 1) pa_nil))) (pa_cons (pe_call G_changed_block (hr.mono (by omega)) rfl T.g_changed_block T.k_changed_block T.b_changed_block .nil pass0 (pa_cons (pv 5) (pa_cons (pv 1) pa_nil))) pa_nil))))))))
      pss_nil)
    (pss_cons (ps_if (pt_cmpR op_eq (pe_ix ix_tup (pv 0) pe_int (fun _ _ => rfl)) pe_str (nomark _))
      (pss_one (ps_ret (pe_tup (pa_cons pe_str (pa_cons (pe_call G_changed_block (hr.mono (by omega)) rfl T.g_changed_block T.k_changed_block T.b_changed_block .nil pass0 (pa_cons (pe_ix ix_tup (pv 0) pe_int (fun _ _ => rfl)) (pa_cons (pv 1) pa_nil))) pa_nil)))))
      pss_nil)
    (pss_one (ps_ret (pv 0))))), ?_⟩
  have dx0 := dx
  obtain ⟨a, rr, rfl, ha, dr⟩ := stm_inv dx
  refine ⟨_, rfl, a, _, 0, _, rfl, rfl, ha, atI_nat (j := 0) rfl, rfl, _, rfl, ?_⟩
  by_cases ci : x.kind = "if"
  · refine iteT2 (by simp [ci]) ?_
    obtain ⟨t, fa, fb, rfl⟩ : ∃ t fa fb, x = .ite t fa fb := by
      cases x <;> first | exact ⟨_, _, _, rfl⟩ | (dsimp only [Stm.kind] at ci; exact absurd ci (by decide +kernel))
    obtain ⟨v1, _, rfl, d1, dr⟩ := dps_cons dr
    obtain ⟨v2, _, rfl, d2, dr⟩ := dps_cons dr
    obtain ⟨v3, _, rfl, d3, dr⟩ := dps_cons dr
    have e0 := dps_nil dr
    subst e0
    obtain ⟨j, f1, f2, rfl⟩ : ∃ j, blF k j fa ∧ blF k j fb ∧ d = j + 1 := by
      cases d with
      | zero => unfold stF at fx; exact fx.elim
      | succ d => unfold stF at fx; exact ⟨d, fx.2.1, fx.2.2.1, rfl⟩
    unfold Stm.tot at ht
    refine ⟨_, rfl, a, _, rfl, ha, rfl, _, _, rfl, _, _, rfl, _, _, rfl, _, _, rfl, rfl, ?_⟩
    refine ⟨_, rfl, _, rfl, _, rfl, hB j rfl _ _ _ _ ⟨v2, f, fa, rfl, hf, d2, f1, by omega, fun u1 H1 m1 du1 => ?_⟩⟩
    refine ⟨_, rfl, _, rfl, hB j rfl _ _ _ _ ⟨v3, f, fb, rfl, hm_ _ _ _ m1 hf, dp_mono m1 _ _ d3, f2, by omega, fun u2 H2 m2 du2 => ?_⟩⟩
    refine ⟨by show 4 ≤ sizeLine; decide, fun tp htp => ?_⟩
    have e1 : (Stm.ite t fa fb).cs g = .ite t (fa.cb g) (fb.cb g) := by unfold Stm.cs; rfl
    rw [e1] at q
    exact q _ _ (m1.trans (m2.trans (same_new htp _))) (dp_tup (ds := [.str "if", t.d, (fa.cb g).d, (fb.cb g).d]) htp (.cons (.str _) (.cons (dp_mono (m1.trans m2) _ _ d1) (.cons (dp_mono m2 _ _ du1) (.cons du2 .nil)))))
  refine iteF2 (by simp [ci]) ⟨_, rfl, a, _, 0, _, rfl, rfl, ha, atI_nat (j := 0) rfl, rfl, _, rfl, ?_⟩
  by_cases ca : x.kind = "after"
  · refine iteT2 (by simp [ca]) ?_
    obtain ⟨fa, rfl⟩ : ∃ fa, x = .after fa := by
      cases x <;> first | exact ⟨_, rfl⟩ | (dsimp only [Stm.kind] at ca; exact absurd ca (by decide +kernel))
    obtain ⟨v1, _, rfl, d1, dr⟩ := dps_cons dr
    have e0 := dps_nil dr
    subst e0
    obtain ⟨j, f1, rfl⟩ : ∃ j, blF k j fa ∧ d = j + 1 := by
      cases d with
      | zero => unfold stF at fx; exact fx.elim
      | succ d => unfold stF at fx; exact ⟨d, fx.1, rfl⟩
    unfold Stm.tot at ht
    refine ⟨_, rfl, a, _, 1, _, rfl, rfl, ha, atI_nat (j := 1) rfl, _, rfl, hB j rfl _ _ _ _ ⟨v1, f, fa, rfl, hf, d1, f1, by omega, fun u1 H1 m1 du1 => ?_⟩⟩
    refine ⟨by show 2 ≤ sizeLine; decide, fun tp htp => ?_⟩
    have e1 : (Stm.after fa).cs g = .after (fa.cb g) := by unfold Stm.cs; rfl
    rw [e1] at q
    exact q _ _ (m1.trans (same_new htp _)) (dp_tup (ds := [.str "after", (fa.cb g).d]) htp (.cons (.str _) (.cons du1 .nil)))
  refine iteF2 (by simp [ca]) ?_
  have e1 : x.cs g = x := by
    cases x <;> first | (unfold Stm.cs; rfl) | exact absurd rfl ci | exact absurd rfl ca
  rw [e1] at q
  exact ⟨_, rfl, q _ _ (Same.refl _) dx0⟩
theorem ok_wcbg (T : Txt K mg file) (hC : LamP.CallOk P w K mg base kf C (spChg K W g)) (hW : ∀ d s, stF k d s → W (s.cs g)) (hm : ∀ s, (g s).length ≤ 10) : ∀ d : Nat, FnOk P w K mg base CX0 (kf + 2 * d + 1) T.a_with_changed_blocks T.fd_with_changed_blocks ["statement", "change"] (spWCBg K C g k d)
  | 0 => ok_wcbg_step T 0 (fun _ _ _ _ => False) ⟨fun _ _ _ _ h => h.elim, fun _ _ _ _ _ _ _ _ _ _ _ _ _ h => h.elim⟩ hC.mono (fun j h => absurd h (by omega))
  | d + 1 => ok_wcbg_step T (d + 1) _ ((ok_cbg_step T hC hW hm d (ok_wcbg T hC hW hm d)).mono (by omega)) hC.mono (fun j h vs H Q E q => by
      obtain rfl : d = j := by omega
      exact q)
theorem ok_cbg (T : Txt K mg file) (hC : LamP.CallOk P w K mg base kf C (spChg K W g)) (hW : ∀ d s, stF k d s → W (s.cs g)) (hm : ∀ s, (g s).length ≤ 10) (d : Nat) : FnOk P w K mg base CX0 (kf + 2 * d + 2) T.a_changed_block T.fd_changed_block ["block", "change"] (spCBg K C g k d) := ok_cbg_step T hC hW hm d (ok_wcbg T hC hW hm d)
theorem ok_wcs (T : Txt K mg file) (hC : LamP.CallOk P w K mg base kf C (spChg K W g)) (hW : ∀ d s, stF k d s → W (s.cs g)) (hm : ∀ s, (g s).length ≤ 10) (d : Nat) : FnOk P w K mg base CX0 (kf + 2 * d + 5) T.a_with_changed_statements T.fd_with_changed_statements ["game", "change"] (spWCS K T.C_Game C g k d) := by
  have G_Game_init : FnOk P w K mg base CX0 1 T.a_Game_init T.fd_Game_init ["self", "variables", "tables", "lots", "procs"] (spGInit T.C_Game) := ok_ginit T
  have G_changed_block : FnOk P w K mg base CX0 (kf + 2 * d + 2) T.a_changed_block T.fd_changed_block ["block", "change"] (spCBg K C g k d) := ok_cbg T hC hW hm d
  refine T.F_with_changed_statements.ok sc_with_changed_statements (fun vs H Q E h => ?_) (fun cdv A outer s H vs Q E hr h => ?_)
  · obtain ⟨ga, f, G, rfl, _⟩ := h
    rfl
  obtain ⟨ga, f, G, rfl, hf, ⟨dx, a, b, c, dd0, hg, da, db, dc, dd⟩, hn, ht, q⟩ := h
  refine ⟨_, (pss_cons (ps_set (i := 2) sc_with_changed_statements.nd rfl (Or.inl rfl) (pe_lst pa_nil))
    (pss_cons (ps_for PassesOwn.never rfl (pi_tup (pe_fld (pv 0) rfl)) (pg_tup rfl (pgs_cons (pg_name (i := 3) sc_with_changed_statements.nd rfl (Or.inl rfl)) (pgs_cons (pg_name (i := 4) sc_with_changed_statements.nd rfl (Or.inl rfl)) (pgs_cons (pg_name (i := 5) sc_with_changed_statements.nd rfl (Or.inl rfl)) (pgs_cons (pg_name (i := 6) sc_with_changed_statements.nd rfl (Or.inl rfl)) (pgs_cons (pg_name (i := 7) sc_with_changed_statements.nd rfl (Or.inl rfl)) (pgs_cons (pg_name (i := 8) sc_with_changed_statements.nd rfl (Or.inl rfl)) pgs_nil)))))))
      (pss_one (ps_expr (pe_bm PySem.F.plainAttrs_list PySem.F.slot_list_append PySem.F.type_list_append mt_append (pv 2) (pa_cons (pe_tup (pa_cons (pv 3) (pa_cons (pv 4) (pa_cons (pv 5) (pa_cons (pv 6) (pa_cons (pe_call G_changed_block (hr.mono (by omega)) rfl T.g_changed_block T.k_changed_block T.b_changed_block .nil pass0 (pa_cons (pv 7) (pa_cons (pv 1) pa_nil))) (pa_cons (pv 8) pa_nil))))))) pa_nil)))))
    (pss_one (ps_ret (pe_make T.mk_Game G_Game_init (hr.mono (by omega)) rfl T.g_Game T.b_Game_init .nil pass0 (pa_cons (pe_fld (pv 0) rfl) (pa_cons (pe_fld (pv 0) rfl) (pa_cons (pe_fld (pv 0) rfl) (pa_cons (pe_callTy call_tuple_of (by rfl) T.z_tuple (by decide +kernel) (pa_cons (pv 2) pa_nil)) pa_nil))))))))), ?_⟩
  obtain ⟨pa, xs, rfl, hpa, dxs⟩ := dp_inv dd
  have lx : xs.length = G.procs.length := (DpAll.len dxs).trans (List.length_map _)
  refine ⟨by show 0 ≤ sizeLine; decide, fun L hL => ?_⟩
  have m0 := same_new hL (.lst [])
  refine ⟨_, rfl, ga, _, dx, _, _, rfl, m0 _ _ hg, T.cl_Game, T.na_Game_procs, gf_procs _ _ _ _, pa, rfl, ⟨_, sqT_mono m0 hpa⟩, ?_⟩
  refine for_tup (K := K) (a := pa) (xs := xs) (fun i σ H' => ∃ (vs : List V) (y2 y3 y4 y5 y6 y7 : Option V), σ = [some (.ref ga), some (.ref f), some (.ref L), y2, y3, y4, y5, y6, y7] ∧ Acc K H H' L vs (((G.cb g).procs.take i).map Pr.d)) ⟨[], none, none, none, none, none, none, rfl, Acc.start hL⟩ (fun i σ H' _ ⟨_, _, _, _, _, _, _, _, ac⟩ => sqT_mono ac.s hpa) ?_ ?_
  · rintro i x σ H1 hx ⟨vs, y2, y3, y4, y5, y6, y7, rfl, ac⟩
    have hi := (List.getElem?_eq_some_iff.mp hx).1
    obtain ⟨p, ep⟩ : ∃ p, G.procs[i]? = some p := ⟨G.procs[i]'(lx ▸ hi), List.getElem?_eq_getElem _⟩
    obtain ⟨x', ex, dp⟩ := DpAll.get dxs (show (G.procs.map Pr.d)[i]? = some p.d by rw [List.getElem?_map, ep]; rfl)
    rw [hx] at ex
    cases ex
    have dp1 := dp_mono ac.s _ _ dp
    obtain ⟨ra, rla, rba, rr, rbs, rfl, hra, hla, hba, dbs, drr⟩ := pr_inv dp1
    have hmm := List.mem_of_getElem? ep
    have hb := ht p hmm
    have hlen : vs.length < sizeLine := by
      have := ac.len
      rw [List.length_map, List.length_take] at this
      have e3 : (G.cb g).procs.length = G.procs.length := List.length_map _
      exact Nat.lt_of_le_of_lt (show vs.length ≤ 1000 by omega) (by decide)
    have dblk : Dp K H1 (.ref rba) p.block.d := by
      refine .tup hba ?_
      rw [Blk.ds_l]
      exact dbs
    refine ⟨ra, _, rfl, hra, rfl, _, _, rfl, _, _, rfl, _, _, rfl, _, _, rfl, _, _, rfl, _, _, rfl, rfl, ?_⟩
    refine ⟨_, rfl, .inl ⟨rfl, _, SqL.of ac.l⟩, _, rfl, _, rfl, _, rfl, _, rfl, _, rfl, _, rfl, .ref rba, f, p.block, rfl, hC.mono _ _ _ ac.s hf, dblk, hb.1, hb.2, fun u1 H2 m2 d1 => ?_⟩
    refine ⟨_, rfl, by show 6 ≤ sizeLine; decide, fun tp htp => ?_⟩
    have m4 := same_new htp (.tup [.str p.name, .int p.size, .int p.ans, .ref rla, u1, rr])
    have ac4 := ac.grow (m2.trans m4)
    refine ⟨L, vs, _, rfl, rfl, ac4.l, hlen, vs ++ [.ref tp], _, _, _, _, _, _, rfl, ?_⟩
    have e1 : (G.cb g).procs[i]? = some (p.cb g) := by
      show (G.procs.map (Pr.cb g))[i]? = _
      rw [List.getElem?_map, ep]
      rfl
    rw [take_more e1, List.map_append]
    have dl : Dp K H1 (.ref rla) (strD p.locs) := .tup hla (dp_strs _)
    have dn : Dp K _ (.ref tp) (p.cb g).d := dp_tup (ds := [.str p.name, .int p.size, .int p.ans, strD p.locs, (p.block.cb g).d, p.res.d]) htp (.cons (.str _) (.cons (.int _) (.cons (.int _) (.cons (dp_mono m2 _ _ dl) (.cons d1 (.cons (dp_mono m2 _ _ drr) .nil))))))
    exact ac4.add dn (Pr.nol _)
  rintro σ H1 ⟨vs, y2, y3, y4, y5, y6, y7, rfl, ac⟩
  have e3 : (G.cb g).procs.length = xs.length := by rw [lx]; exact List.length_map _
  rw [← e3, List.take_length] at ac
  have hg1 := ac.s _ _ hg
  refine ⟨_, rfl, ga, _, dx, _, _, rfl, hg1, T.cl_Game, T.na_Game_variables, gf_variables _ _ _ _, ?_⟩
  refine ⟨_, rfl, ga, _, dx, _, _, rfl, hg1, T.cl_Game, T.na_Game_tables, gf_tables _ _ _ _, ?_⟩
  refine ⟨_, rfl, ga, _, dx, _, _, rfl, hg1, T.cl_Game, T.na_Game_lots, gf_lots _ _ _ _, ?_⟩
  refine ⟨_, rfl, L, vs, rfl, .inl ⟨SqL.of ac.l, fun tp htp => ?_⟩⟩
  have n1 := same_new htp (.tup vs)
  have m2 := ac.s.trans n1
  have dt : Dp K (upd H1 tp (.tup vs)) (.ref tp) (.tuple ((G.cb g).procs.map Pr.d)) := dp_tup htp ac.d
  intro g' dx' ng nd ne
  refine ⟨g', dx', a, b, c, .ref tp, rfl, upd_same, fun H3 e3 hk => ⟨rfl, ?_⟩⟩
  have m3 : Same (upd H1 tp (.tup vs)) H3 := fun x o e => hk x o (same_make ng nd x o e) (ne_of_none e ng)
  have m := m2.trans m3
  exact q g' H3 m ⟨dx', a, b, c, .ref tp, e3, dp_mono m _ _ da, dp_mono m _ _ db, dp_mono m _ _ dc, dp_mono m3 _ _ dt⟩
end
end Toy
set_option Elab.async false
set_option linter.all false
set_option maxRecDepth 100000
set_option maxHeartbeats 4000000
/-! A head by one kernel run: what is looked at behind the top is a Bool over a part of the heap, the defs, the tables. -/
namespace HdF
open PySem PySem.Spec PyProof.Rows L2 He
abbrev Fr := PySem.W.Frag
/-! ### objects, written out: each piece is looked at, then handed on -/
section
variable {α : Type}
def wNat (n : Nat) (k : Nat → α) : α := HandSHeadRun.frNat n k
theorem wNat_eq (n : Nat) (k : Nat → α) : wNat n k = k n := HandSHeadRun.frNat_eq n k
def wList {β : Type} (f : β → (β → α) → α) : List β → (List β → α) → α
  | [], k => k []
  | x :: r, k => f x fun x => wList f r fun r => k (x :: r)
theorem wList_eq {β : Type} {f : β → (β → α) → α} (hf : ∀ x k, f x k = k x) : ∀ (l : List β) (k : List β → α), wList f l k = k l
  | [], _ => rfl
  | x :: r, k => by
    show f x (fun x => wList f r fun r => k (x :: r)) = _
    rw [hf, wList_eq hf r]
def wV (v : Value) (k : Value → α) : α := match v with
  | .none => k .none
  | .ellipsis => k .ellipsis
  | .notImplemented => k .notImplemented
  | .bool b => (match b with
    | true => k (.bool true)
    | false => k (.bool false))
  | .int i t => (match i with
    | .ofNat n => wNat n fun n => k (.int (.ofNat n) t)
    | .negSucc n => wNat n fun n => k (.int (.negSucc n) t))
  | .float b t => k (.float b t)
  | .str s t => (match s with
    | ⟨⟨l⟩⟩ => wList wNat l fun l => k (.str ⟨⟨l⟩⟩ t))
  | .bytes b t => k (.bytes b t)
  | .type n => k (.type n)
  | .builtin n => k (.builtin n)
  | .ref a => wNat a fun a => k (.ref a)
theorem wV_eq (v : Value) (k : Value → α) : wV v k = k v := by
  cases v with
  | bool b => cases b <;> rfl
  | int i t =>
    cases i with
    | ofNat n => exact wNat_eq n fun n => k (.int (.ofNat n) t)
    | negSucc n => exact wNat_eq n fun n => k (.int (.negSucc n) t)
  | str s t =>
    obtain ⟨⟨l⟩⟩ := s
    exact wList_eq wNat_eq l fun l => k (.str ⟨⟨l⟩⟩ t)
  | ref a => exact wNat_eq a fun a => k (.ref a)
  | _ => rfl
def wE (e : DictEntry) (k : DictEntry → α) : α := match e with
  | ⟨h, x, v⟩ => wV x fun x => wV v fun v => k ⟨h, x, v⟩
theorem wE_eq (e : DictEntry) (k : DictEntry → α) : wE e k = k e := by
  obtain ⟨h, x, v⟩ := e
  show wV x (fun x => wV v fun v => k ⟨h, x, v⟩) = _
  rw [wV_eq, wV_eq]
def wO {β : Type} (f : β → (β → α) → α) (o : Option β) (k : Option β → α) : α := match o with
  | some x => f x fun x => k (some x)
  | none => k none
theorem wO_eq {β : Type} {f : β → (β → α) → α} (hf : ∀ x k, f x k = k x) (o : Option β) (k : Option β → α) : wO f o k = k o := by
  cases o with
  | none => rfl
  | some x => exact hf x fun x => k (some x)
def wC (p : Str × Addr) (k : Str × Addr → α) : α := match p with
  | (x, a) => wNat a fun a => k (x, a)
theorem wC_eq (p : Str × Addr) (k : Str × Addr → α) : wC p k = k p := by
  obtain ⟨x, a⟩ := p
  exact wNat_eq a fun a => k (x, a)
def wA {β : Type} (f : β → (β → α) → α) (o : Array β) (k : Array β → α) : α := match o with
  | ⟨l⟩ => wList f l fun l => k ⟨l⟩
theorem wA_eq {β : Type} {f : β → (β → α) → α} (hf : ∀ x k, f x k = k x) (o : Array β) (k : Array β → α) : wA f o k = k o := by
  obtain ⟨l⟩ := o
  exact wList_eq hf l fun l => k ⟨l⟩
def wF (f : FuncData) (k : FuncData → α) : α := match f with
  | ⟨n1, n2, n3, n4, n5, n6, n7, n8, n9, n10, n11, n12, n13, n14, n15⟩ => wNat n6 fun n6 => wList wC n7 fun n7 => wV n8 fun n8 => wV n13 fun n13 => wNat n15 fun n15 => k ⟨n1, n2, n3, n4, n5, n6, n7, n8, n9, n10, n11, n12, n13, n14, n15⟩
theorem wF_eq (f : FuncData) (k : FuncData → α) : wF f k = k f := by
  obtain ⟨n1, n2, n3, n4, n5, n6, n7, n8, n9, n10, n11, n12, n13, n14, n15⟩ := f
  unfold wF
  dsimp only
  rw [wNat_eq, wList_eq wC_eq, wV_eq, wV_eq, wNat_eq]
def wK (c : ClassData) (k : ClassData → α) : α := match c with
  | ⟨n1, n2, n3, n4, n5, n6, n7, n8, n9, n10, n11⟩ => wList wV n3 fun n3 => wNat n4 fun n4 => k ⟨n1, n2, n3, n4, n5, n6, n7, n8, n9, n10, n11⟩
theorem wK_eq (c : ClassData) (k : ClassData → α) : wK c k = k c := by
  obtain ⟨n1, n2, n3, n4, n5, n6, n7, n8, n9, n10, n11⟩ := c
  unfold wK
  dsimp only
  rw [wList_eq wV_eq, wNat_eq]
def wD (d : Data) (k : Data → α) : α := match d with
  | .plain => k .plain
  | .prim v => wV v fun v => k (.prim v)
  | .seq its n => wA wV its fun its => k (.seq its n)
  | .dict es n => wA wE es fun es => k (.dict es n)
  | .set es n t => k (.set es n t)
  | .bytearray b n => k (.bytearray b n)
  | .cell v => wO wV v fun v => k (.cell v)
  | .func f => wF f fun f => k (.func f)
  | .cls c => wK c fun c => k (.cls c)
  | .fields vs => wA wV vs fun vs => k (.fields vs)
  | .freed => k .freed
theorem wD_eq (d : Data) (k : Data → α) : wD d k = k d := by
  cases d with
  | prim v => exact wV_eq v fun v => k (.prim v)
  | seq its n => exact wA_eq wV_eq its fun its => k (.seq its n)
  | dict es n => exact wA_eq wE_eq es fun es => k (.dict es n)
  | cell v => exact wO_eq wV_eq v fun v => k (.cell v)
  | func f => exact wF_eq f fun f => k (.func f)
  | cls c => exact wK_eq c fun c => k (.cls c)
  | fields vs => exact wA_eq wV_eq vs fun vs => k (.fields vs)
  | _ => rfl
def wObj (o : Obj) (k : Obj → α) : α := match o with
  | ⟨c, d, dt, sl⟩ => wV c fun c => wO wNat d fun d => wD dt fun dt => wA (wO wV) sl fun sl => k ⟨c, d, dt, sl⟩
theorem wObj_eq (o : Obj) (k : Obj → α) : wObj o k = k o := by
  obtain ⟨c, d, dt, sl⟩ := o
  unfold wObj
  dsimp only
  rw [wV_eq, wO_eq wNat_eq, wD_eq, wA_eq (wO_eq wV_eq)]
end
/-! ### the part of the heap -/
def refsF (o : Obj) : List Addr := match o.data with
  | .seq its _ => its.toList.flatMap refV
  | .dict es _ => es.toList.flatMap fun e => refV e.val
  | .func fd => refV fd.code ++ (refV fd.defaults ++ fd.closure.map (·.2))
  | .cls cd => cd.ns :: cd.mro.flatMap refV
  | _ => []
def hasA (a : Addr) : Fr → Bool
  | [] => false
  | (b, _) :: r => match Nat.beq b a with
    | true => true
    | false => hasA a r
section
variable {α : Type} (g : Addr → Option Obj)
def addC : List Addr → Fr → List Addr → (Fr → List Addr → α) → α
  | [], K, fr, k => k K fr
  | a :: r, K, fr, k => wNat a fun a => match hasA a K with
    | true => addC r K fr k
    | false => match g a with
      | some o => wObj o fun o => wList wNat (refsF o) fun rs => addC r ((a, o) :: K) (rs ++ fr) k
      | none => addC r K fr k
def levC : Nat → List Addr → Fr → (Fr → α) → α
  | 0, _, K, k => k K
  | n + 1, fr, K, k => addC g fr K [] fun K fr => levC n fr K k
def revC : Fr → Fr → (Fr → α) → α
  | [], acc, k => k acc
  | p :: r, acc, k => revC r (p :: acc) k
/-- what the module's names reach in n steps, and cStatics -/
def topC (n : Nat) (k : Fr → α) : α := levC g n [mainGlobals] [] fun K => addC g [cStatics] K [] fun K _ => revC K [] k
end
def Good (g : Addr → Option Obj) (K : Fr) : Prop := ∀ p ∈ K, g p.1 = some p.2
section
variable {g : Addr → Option Obj}
theorem addC_ok : ∀ (l : List Addr) (K : Fr) (fr : List Addr), ∃ K' fr', (Good g K → Good g K') ∧ ∀ (α : Type) (k : Fr → List Addr → α), addC g l K fr k = k K' fr'
  | [], K, fr => ⟨K, fr, id, fun _ _ => rfl⟩
  | a :: r, K, fr => by
    have e : ∀ (α : Type) (k : Fr → List Addr → α), addC g (a :: r) K fr k = match hasA a K with
      | true => addC g r K fr k
      | false => match g a with
        | some o => addC g r ((a, o) :: K) (refsF o ++ fr) k
        | none => addC g r K fr k := fun α k => by
      show wNat a _ = _
      rw [wNat_eq]
      cases hasA a K with
      | true => rfl
      | false =>
        cases g a with
        | none => rfl
        | some o =>
          show wObj o _ = _
          rw [wObj_eq, wList_eq wNat_eq]
    cases h1 : hasA a K with
    | true =>
      obtain ⟨K', fr', h, q⟩ := addC_ok r K fr
      exact ⟨K', fr', h, fun α k => by rw [e, h1]; exact q α k⟩
    | false =>
      cases h2 : g a with
      | none =>
        obtain ⟨K', fr', h, q⟩ := addC_ok r K fr
        exact ⟨K', fr', h, fun α k => by rw [e, h1, h2]; exact q α k⟩
      | some o =>
        obtain ⟨K', fr', h, q⟩ := addC_ok r ((a, o) :: K) (refsF o ++ fr)
        refine ⟨K', fr', fun z => h fun p hp => ?_, fun α k => by rw [e, h1, h2]; exact q α k⟩
        rcases List.mem_cons.mp hp with rfl | hp
        · exact h2
        · exact z p hp
theorem levC_ok : ∀ (n : Nat) (fr : List Addr) (K : Fr), ∃ K', (Good g K → Good g K') ∧ ∀ (α : Type) (k : Fr → α), levC g n fr K k = k K'
  | 0, fr, K => ⟨K, id, fun _ _ => rfl⟩
  | n + 1, fr, K => by
    obtain ⟨K1, fr1, h1, q1⟩ := addC_ok (g := g) fr K []
    obtain ⟨K2, h2, q2⟩ := levC_ok n fr1 K1
    exact ⟨K2, fun z => h2 (h1 z), fun α k => (q1 α _).trans (q2 α k)⟩
theorem revC_ok : ∀ (K acc : Fr), ∃ K', (Good g K → Good g acc → Good g K') ∧ ∀ (α : Type) (k : Fr → α), revC K acc k = k K'
  | [], acc => ⟨acc, fun _ z => z, fun _ _ => rfl⟩
  | p :: r, acc => by
    obtain ⟨K', h, q⟩ := revC_ok r (p :: acc)
    refine ⟨K', fun z1 z2 => h (fun x hx => z1 x (List.mem_cons_of_mem _ hx)) fun x hx => ?_, fun α k => q α k⟩
    rcases List.mem_cons.mp hx with rfl | hx
    · exact z1 _ (List.mem_cons_self ..)
    · exact z2 x hx
theorem topC_ok (n : Nat) : ∃ K, Good g K ∧ ∀ (α : Type) (k : Fr → α), topC g n k = k K := by
  obtain ⟨K1, h1, q1⟩ := levC_ok (g := g) n [mainGlobals] []
  obtain ⟨K2, fr2, h2, q2⟩ := addC_ok (g := g) [cStatics] K1 []
  obtain ⟨K3, h3, q3⟩ := revC_ok (g := g) K2 []
  exact ⟨K3, h3 (h2 (h1 fun p hp => nomatch hp)) fun p hp => (nomatch hp), fun α k => (q1 α _).trans ((q2 α _).trans (q3 α k))⟩
end
theorem lookup_mem' {a : Addr} {o : Obj} : ∀ {l : List (Addr × Obj)}, l.lookup a = some o → (a, o) ∈ l
  | [], h => by cases h
  | (b, u) :: r, h => by
    have h2 : (match a == b with | true => some u | false => r.lookup a) = some o := h
    cases q : (a == b) with
    | true =>
      rw [q] at h2
      have e : u = o := Option.some.inj h2
      rw [beq_iff_eq.mp q, e]
      exact List.mem_cons_self ..
    | false =>
      rw [q] at h2
      exact List.mem_cons_of_mem _ (lookup_mem' h2)
theorem good_in {h : Heap} {K : Fr} (z : Good h.get? K) : K.In h := fun a o e => z (a, o) (lookup_mem' e)
/-! ### defs -/
/-- a def: where it stands, names, parameters, body, scope, defaults, the class that its cell __class__ holds -/
structure DefF where
  at_ : Str × Option Str
  name : Str
  qual : Str
  params : Arguments
  body : List Stmt
  scope : Scope
  dfl : List Dv := []
  own : Option Str := none
abbrev FnV : Type := Option (Str × Str × Arguments × FuncBody × Scope × Addr × List Str × Addr)
def fnV (K : Fr) (p : Str × Option Str) : FnV := match K.lookup (fAd K p) with
  | some ⟨_, _, .func fd, _⟩ => some (fd.name, fd.qualname, fd.params, fd.body, fd.scope, fd.globals, fd.closure.map (·.1), fd.builtins)
  | _ => none
def DefF.clo (d : DefF) : List Str := match d.own with
  | none => []
  | some _ => ["__class__"]
def DefF.val (d : DefF) : FnV := some (d.name, d.qual, d.params, .stmts d.body, d.scope, mainGlobals, d.clo, builtinsNs)
def cellB (K : Fr) (file : Str) (C : Str) (fd : FuncData) : Bool := match fd.closure, fd.code with
  | [(_, cc)], .ref cd => (match K.lookup cc with
    | some ⟨_, _, .cell (some (.ref c)), _⟩ => decide (c = ga K C)
    | _ => false) && (match K.lookup cd with
    | some ⟨_, _, .fields vs, _⟩ => (match (vs[2]? : Option Value) with
      | some (.str s _) => decide (s = file)
      | _ => false)
    | _ => false)
  | _, _ => false
def DefF.ok (file : Str) (K : Fr) (d : DefF) : Bool := PySem.W.keepIn K (.ref (fAd K d.at_)) && (match K.lookup (fAd K d.at_) with
  | some ⟨_, _, .func fd, _⟩ => PySem.W.codeIn K fd.code d.qual && (dflB K fd.defaults (d.dfl.map (Dv.v K)) && (match d.own with
    | none => true
    | some C => cellB K file C fd))
  | _ => false)
theorem DefF.out {file : Str} {K : Fr} {d : DefF} (e : fnV K d.at_ = d.val) (c : d.ok file K = true) :
    ∃ oc od dV kV doc pm an cdv ct clo osl, K.lookup (fAd K d.at_) = some ⟨oc, od, .func (PySem.W.fnX d.name d.qual d.params d.body d.scope clo dV kV doc pm an cdv ct), osl⟩ ∧ clo.map (·.1) = d.clo ∧
      PySem.W.codeIn K cdv d.qual = true ∧ dflB K dV (d.dfl.map (Dv.v K)) = true ∧ (match d.own with
        | none => true
        | some C => cellB K file C (PySem.W.fnX d.name d.qual d.params d.body d.scope clo dV kV doc pm an cdv ct)) = true ∧ PySem.W.keepIn K (.ref (fAd K d.at_)) = true := by
  obtain ⟨kp, c2⟩ := ba c
  unfold fnV at e
  cases q : K.lookup (fAd K d.at_) with
  | none =>
    rw [q] at c2
    cases c2
  | some o =>
    obtain ⟨oc, od, dt, osl⟩ := o
    rw [q] at c2 e
    cases dt with
    | func fd =>
      obtain ⟨n1, n2, n3, n4, n5, n6, n7, n8, n9, n10, n11, n12, n13, n14, n15⟩ := fd
      have e2 : (some (n1, n2, n3, n4, n5, n6, n7.map (·.1), n15) : FnV) = some (d.name, d.qual, d.params, .stmts d.body, d.scope, mainGlobals, d.clo, builtinsNs) := e
      simp only [Option.some.injEq, Prod.mk.injEq] at e2
      obtain ⟨h1, h2, h3, h4, h5, h6, h7, h8⟩ := e2
      subst h1 h2 h3 h4 h5 h6 h8
      obtain ⟨k1, k2⟩ := ba c2
      obtain ⟨k3, k4⟩ := ba k2
      exact ⟨oc, od, n8, n9, n10, n11, n12, n13, n14, n7, osl, rfl, h7, k1, k3, k4, kp⟩
    | _ => cases c2
theorem dfl_nil {K : Fr} {dV : Value} (h : dflB K dV [] = true) : dV = .none := by
  cases dV with
  | none => rfl
  | _ => cases h
theorem dfl_cons {K : Fr} {dV : Value} {v : V} {vs : List V} (h : dflB K dV (v :: vs) = true) : ∃ T dc dd l n dsl, dV = .ref T ∧ K.lookup T = some ⟨dc, dd, .seq (List.toArray l) n, dsl⟩ ∧ Vals (v :: vs) l := by
  cases dV with
  | ref T =>
    have h1 : (match K.lookup T with
      | some ⟨_, _, .seq its _, _⟩ => relAll (v :: vs) its.toList
      | _ => false) = true := h
    cases q : K.lookup T with
    | none =>
      rw [q] at h1
      cases h1
    | some o =>
      obtain ⟨oc, od, dt, osl⟩ := o
      rw [q] at h1
      cases dt with
      | seq its n => exact ⟨T, oc, od, its.toList, n, osl, rfl, q.trans (by rw [Array.toArray_toList]), relAll_ok h1⟩
      | _ => cases h1
  | _ => cases h
theorem vals_cons {v : V} {vs : List V} {l : List Value} (h : Vals (v :: vs) l) : ∃ u r, l = u :: r ∧ RelV v u ∧ Vals vs r := by
  cases h with
  | cons a b => exact ⟨_, _, rfl, a, b⟩
theorem vals_nil {l : List Value} (h : Vals [] l) : l = [] := by
  cases h
  rfl
theorem vals_str {x : Str} {vs : List V} {l : List Value} (h : Vals (.str x :: vs) l) : ∃ t r, l = .str x t :: r ∧ Vals vs r := by
  obtain ⟨u, r, rfl, ⟨t, rfl⟩, z⟩ := vals_cons h
  exact ⟨t, r, rfl, z⟩
theorem vals_int {x : Int} {vs : List V} {l : List Value} (h : Vals (.int x :: vs) l) : ∃ t r, l = .int x t :: r ∧ Vals vs r := by
  obtain ⟨u, r, rfl, ⟨t, rfl⟩, z⟩ := vals_cons h
  exact ⟨t, r, rfl, z⟩
theorem vals_ref {x : Addr} {vs : List V} {l : List Value} (h : Vals (.ref x :: vs) l) : ∃ r, l = .ref x :: r ∧ Vals vs r := by
  obtain ⟨u, r, rfl, e, z⟩ := vals_cons h
  cases e
  exact ⟨r, rfl, z⟩
theorem vals_bl {x : Bool} {vs : List V} {l : List Value} (h : Vals (.bl x :: vs) l) : ∃ r, l = .bool x :: r ∧ Vals vs r := by
  obtain ⟨u, r, rfl, e, z⟩ := vals_cons h
  cases e
  exact ⟨r, rfl, z⟩
theorem vals_non {vs : List V} {l : List Value} (h : Vals (.non :: vs) l) : ∃ r, l = .none :: r ∧ Vals vs r := by
  obtain ⟨u, r, rfl, e, z⟩ := vals_cons h
  cases e
  exact ⟨r, rfl, z⟩
theorem cell_ok {K : Fr} {file C : Str} {fd : FuncData} (h : cellB K file C fd = true) (hn : fd.closure.map (·.1) = [("__class__" : Str)]) :
    ∃ cc cda ccl cdd ccs vs0 tf cl cld csl, fd.closure = [(("__class__" : Str), cc)] ∧ fd.code = .ref cda ∧ K.lookup cda = some ⟨ccl, cdd, .fields vs0, ccs⟩ ∧ vs0[2]? = some (.str file tf) ∧ K.lookup cc = some ⟨cl, cld, .cell (some (.ref (ga K C))), csl⟩ := by
  obtain ⟨n1, n2, n3, n4, n5, n6, clo, n8, n9, n10, n11, n12, cdv, n14, n15⟩ := fd
  match clo, cdv, h, hn with
  | [(x, cc)], .ref cd, h, hn =>
    have ex : x = "__class__" := (List.cons.inj hn).1
    subst ex
    obtain ⟨h1, h2⟩ := ba (show ((match K.lookup cc with
    | some ⟨_, _, .cell (some (.ref c)), _⟩ => decide (c = ga K C)
    | _ => false) && (match K.lookup cd with
    | some ⟨_, _, .fields vs, _⟩ => (match (vs[2]? : Option Value) with
      | some (.str s _) => decide (s = file)
      | _ => false)
    | _ => false)) = true from h)
    split at h1
    · rename_i o1 o2 c o3 e1
      split at h2
      · rename_i p1 p2 vs p3 e2
        split at h2
        · rename_i s t e3
          have ec := of_decide_eq_true h1
          have es := of_decide_eq_true h2
          subst ec es
          exact ⟨cc, cd, _, _, _, vs, t, _, _, _, rfl, rfl, e2, e3, e1⟩
        · cases h2
      · cases h2
    · cases h1
/-! ### own classes under ValueError -/
def vexB (K : Fr) (C : Addr) : Bool := match K.lookup C with
  | some ⟨.type c, _, .cls cd, sl⟩ => decide (c = "type") && (match cd.mro, sl.toList with
    | .ref c' :: bm, [_, _, _, _, some (.builtin n), _] => decide (c' = C) && (decide (n = "ValueError.__new__") && (!cd.hasDel && (cd.hasDict && PySem.HandSPX.refsVE bm)))
    | _, _ => false)
  | _ => false
theorem vex_ok {K : Fr} {C : Addr} (h : vexB K C = true) : ∃ nm q N bs bm sn sub ab col dd k0 k1 k2 k3 k5, K.lookup C = some (excClassObj nm q C N bs bm true sn sub ab col dd k0 k1 k2 k3 k5 "ValueError.__new__") ∧ PySem.HandSPX.refsVE bm = true := by
  unfold vexB at h
  split at h
  · rename_i c dd cd sl e
    obtain ⟨h0, h1⟩ := ba h
    have e0 := of_decide_eq_true h0
    subst e0
    obtain ⟨nm, bs, mro, ns, qn, hd, sn, sub, ab, col, del⟩ := cd
    obtain ⟨l⟩ := sl
    split at h1
    · rename_i c' bm k0 k1 k2 k3 n k5 hm hs
      obtain ⟨a1, h2⟩ := ba h1
      obtain ⟨a2, h3⟩ := ba h2
      obtain ⟨a3, h4⟩ := ba h3
      obtain ⟨a4, a5⟩ := ba h4
      have b1 := of_decide_eq_true a1
      have b2 := of_decide_eq_true a2
      have b3 : del = false := by
        cases del with
        | false => rfl
        | true => cases a3
      have b4 : hd = true := a4
      have b5 : mro = .ref c' :: bm := hm
      have b6 : l = _ := hs
      subst b1 b2 b3 b4 b5 b6
      exact ⟨nm, qn, ns, bs, bm, sn, sub, ab, col, dd, k0, k1, k2, k3, k5, e, a5⟩
    · cases h1
  · cases h
/-! ### constants, tables -/
def intB (K : Fr) (x : Str) (i : Int) : Bool := match PySem.W.nsIn K mainGlobals x with
  | some (some (.int j _)) => decide (j = i)
  | _ => false
theorem int_ok {K : Fr} {x : Str} {i : Int} (h : intB K x i = true) : ∃ t, PySem.W.nsIn K mainGlobals x = some (some (.int i t)) := by
  unfold intB at h
  split at h
  · rename_i j t e
    have ej := of_decide_eq_true h
    subst ej
    exact ⟨t, e⟩
  · cases h
def strB (K : Fr) (x z : Str) : Bool := match PySem.W.nsIn K mainGlobals x with
  | some (some (.str y _)) => decide (y = z)
  | _ => false
theorem str_ok {K : Fr} {x z : Str} (h : strB K x z = true) : ∃ t, PySem.W.nsIn K mainGlobals x = some (some (.str z t)) := by
  unfold strB at h
  split at h
  · rename_i j t e
    have ej := of_decide_eq_true h
    subst ej
    exact ⟨t, e⟩
  · cases h
/-- a tuple of these at a -/
def tupAt (K : Fr) (a : Addr) (vs : List Dv) : Bool := match K.lookup a with
  | some ⟨.type c, _, .seq its _, _⟩ => decide (c = "tuple") && relAll (vs.map (Dv.v K)) its.toList
  | _ => false
theorem tup_ok {K : Fr} {a : Addr} {vs : List Dv} (h : tupAt K a vs = true) : ∃ od l n sl, K.lookup a = some ⟨.type "tuple", od, .seq (List.toArray l) n, sl⟩ ∧ Vals (vs.map (Dv.v K)) l := by
  unfold tupAt at h
  split at h
  · rename_i c od its n sl e
    obtain ⟨h1, h2⟩ := ba h
    have e1 := of_decide_eq_true h1
    subst e1
    exact ⟨od, its.toList, n, sl, e.trans (by rw [Array.toArray_toList]), relAll_ok h2⟩
  · cases h
/-- the i-th value of the dict at a -/
def valAt (K : Fr) (a : Addr) (i : Nat) : Addr := match K.lookup a with
  | some ⟨_, _, .dict es _, _⟩ => (match es.toList[i]? with
    | some e => (match e.val with
      | .ref b => b
      | _ => 0)
    | none => 0)
  | _ => 0
/-- the values of the dict at a are objects -/
def refsB (K : Fr) (a : Addr) : Bool := match K.lookup a with
  | some ⟨_, _, .dict es _, _⟩ => es.toList.all fun e => match e.val with
    | .ref _ => true
    | _ => false
  | _ => false
theorem dic_cons {P : Params} {k : Str} {ks : List Str} {l : List DictEntry} (h : l.map He.keyOf = He.keysIn P (k :: ks)) (hr : (l.all fun e => match e.val with | .ref _ => true | _ => false) = true) :
    ∃ x t v r, l = ⟨x, .str k t, .ref v⟩ :: r ∧ x = PyData.keyHash P k ∧ r.map He.keyOf = He.keysIn P ks ∧ (r.all fun e => match e.val with | .ref _ => true | _ => false) = true := by
  match l, h, hr with
  | e :: r, h, hr =>
    have h1 : He.keyOf e :: r.map He.keyOf = some (k, PyData.keyHash P k) :: He.keysIn P ks := h
    injection h1 with h2 h3
    obtain ⟨r1, r2⟩ := ba (show ((match e.val with | .ref _ => true | _ => false) && r.all fun e => match e.val with | .ref _ => true | _ => false) = true from hr)
    obtain ⟨x, ky, vl⟩ := e
    unfold He.keyOf at h2
    split at h2
    · rename_i y t q
      have h4 := Option.some.inj h2
      obtain ⟨h5, h6⟩ := Prod.mk.inj h4
      have q' : ky = .str y t := q
      subst q' h5
      cases vl with
      | ref v => exact ⟨x, t, v, r, rfl, h6, h3, r2⟩
      | _ => cases r1
    · cases h2
theorem dic_nil {P : Params} {l : List DictEntry} (h : l.map He.keyOf = He.keysIn P []) : l = [] := by
  cases l with
  | nil => rfl
  | cons _ _ => cases h
theorem dic_ok {K : Fr} {P : Params} {a : Addr} {ks : List Str} (h : dicW K a = some (He.keysIn P ks)) (hr : refsB K a = true) :
    ∃ l n, K.lookup a = some ⟨.type "dict", none, .dict (List.toArray l) n, #[]⟩ ∧ (a == sysModules) = false ∧ l.map He.keyOf = He.keysIn P ks ∧ (l.all fun e => match e.val with | .ref _ => true | _ => false) = true := by
  unfold dicW at h
  split at h
  · rename_i c es n sl e
    split at h
    · rename_i z
      obtain ⟨z1, z2⟩ := ba z
      obtain ⟨z3, z4⟩ := ba z2
      have e1 := of_decide_eq_true z1
      have e2 := Array.isEmpty_iff.mp z3
      subst e1 e2
      have e3 : (a == sysModules) = false := by
        cases y : a == sysModules with
        | false => rfl
        | true =>
          rw [y] at z4
          cases z4
      unfold refsB at hr
      rw [e] at hr
      exact ⟨es.toList, n, e.trans (by rw [Array.toArray_toList]), e3, Option.some.inj h, hr⟩
    · cases h
  · cases h
/-! ### the Hook -/
abbrev Ex : Type := List (List (Fr → Bool))
abbrev AlF : Type := Bool × List FnV × List (Option (List (Option (Str × Int))))
def obsF (file : Str) (ex : Ex) (fn : List DefF) (ts : List Tab) (K : Fr) : AlF := ((ex.all fun l => l.all fun f => f K) && fn.all fun d => d.ok file K, fn.map fun d => fnV K d.at_, ts.map fun t => dicW K (t.1 K))
def valF (fn : List DefF) (ts : List Tab) (w : World) : AlF := (true, fn.map DefF.val, ts.map fun t => some (He.keysIn w.params t.2))
def Says (file : Str) (ex : Ex) (fn : List DefF) (ts : List Tab) (w : World) (K : Fr) : Prop := obsF file ex fn ts K = valF fn ts w
def obsFG (n : Nat) (file : Str) (ex : Ex) (fn : List DefF) (ts : List Tab) (g : Addr → Option Obj) : AlF := topC g n fun K => obsF file ex fn ts K
def hookF (n : Nat) (file : Str) (ex : Ex) (fn : List DefF) (ts : List Tab) : PySem.W.Hook where
  α := AlF
  obs := fun s => obsFG n file ex fn ts s.heap.get?
  val := fun w => valF fn ts w
  says := fun w h => ∃ K : Fr, K.In h ∧ Says file ex fn ts w K
  of := fun w s e => by
    obtain ⟨K, h, q⟩ := topC_ok (g := s.heap.get?) n
    exact ⟨K, good_in h, (q _ _).symm.trans e⟩
  keeps := fun _ _ _ ⟨K, hK, c⟩ k => ⟨K, PySem.W.Frag.In.keeps hK k, c⟩
theorem obsFG_eq {n : Nat} {file : Str} {ex : Ex} {fn : List DefF} {ts : List Tab} {g : Addr → Option Obj} {s : Shared} (h : ∀ a, g a = s.heap.get? a) : obsFG n file ex fn ts g = (hookF n file ex fn ts).obs s := by
  have e : g = s.heap.get? := funext h
  rw [e] <;> rfl
section
variable {file : Str} {ex : Ex} {fn : List DefF} {ts : List Tab} {w : World} {K : Fr}
theorem Says.get (c : Says file ex fn ts w K) (i j : Nat) {f : Fr → Bool} (h : (ex[i]?.bind fun l => l[j]?) = some f) : f K = true := by
  have c1 := (ba (show ((ex.all fun l => l.all fun f => f K) && fn.all fun d => d.ok file K) = true from congrArg (fun z : AlF => z.1) c)).1
  cases e : ex[i]? with
  | none =>
    rw [e] at h
    cases h
  | some l =>
    rw [e] at h
    exact List.all_eq_true.mp (List.all_eq_true.mp c1 l (List.mem_of_getElem? e)) f (List.mem_of_getElem? h)
theorem Says.def_ (c : Says file ex fn ts w K) (i : Nat) {d : DefF} (h : fn[i]? = some d) :
    ∃ oc od dV kV doc pm an cdv ct clo osl, K.lookup (fAd K d.at_) = some ⟨oc, od, .func (PySem.W.fnX d.name d.qual d.params d.body d.scope clo dV kV doc pm an cdv ct), osl⟩ ∧ clo.map (·.1) = d.clo ∧
      PySem.W.codeIn K cdv d.qual = true ∧ dflB K dV (d.dfl.map (Dv.v K)) = true ∧ (match d.own with
        | none => true
        | some C => cellB K file C (PySem.W.fnX d.name d.qual d.params d.body d.scope clo dV kV doc pm an cdv ct)) = true ∧ PySem.W.keepIn K (.ref (fAd K d.at_)) = true := by
  have c2 := (ba (show ((ex.all fun l => l.all fun f => f K) && fn.all fun d => d.ok file K) = true from congrArg (fun z : AlF => z.1) c)).2
  have e : fn.map (fun d => fnV K d.at_) = fn.map DefF.val := congrArg (fun z : AlF => z.2.1) c
  have e2 : (fn.map fun d => fnV K d.at_)[i]? = (fn.map DefF.val)[i]? := by rw [e]
  rw [List.getElem?_map, List.getElem?_map, h] at e2
  exact DefF.out (Option.some.inj e2) (List.all_eq_true.mp c2 d (List.mem_of_getElem? h))
/-- a def without defaults -/
theorem Says.plain (c : Says file ex fn ts w K) (i : Nat) {p : Str × Option Str} {x q : Str} {pa : Arguments} {bo : List Stmt} {sc : Scope} (h : fn[i]? = some ⟨p, x, q, pa, bo, sc, [], none⟩) :
    ∃ oc od kV doc pm an cdv ct osl, K.lookup (fAd K p) = some ⟨oc, od, .func (PySem.W.fnOf x q pa bo sc .none kV doc pm an cdv ct), osl⟩ ∧ PySem.W.codeIn K cdv q = true ∧ PySem.W.keepIn K (.ref (fAd K p)) = true := by
  obtain ⟨oc, od, dV, kV, doc, pm, an, cdv, ct, clo, osl, e, hc, h1, h2, _, h4⟩ := c.def_ i h
  have hd := dfl_nil h2
  have hcl : clo = [] := List.map_eq_nil_iff.mp hc
  subst hd hcl
  exact ⟨oc, od, kV, doc, pm, an, cdv, ct, osl, e, h1, h4⟩
/-- a def with defaults -/
theorem Says.dflt (c : Says file ex fn ts w K) (i : Nat) {p : Str × Option Str} {x q : Str} {pa : Arguments} {bo : List Stmt} {sc : Scope} {v : Dv} {vs : List Dv} (h : fn[i]? = some ⟨p, x, q, pa, bo, sc, v :: vs, none⟩) :
    ∃ oc od dT kV doc pm an cdv ct osl dc dd l n dsl, K.lookup (fAd K p) = some ⟨oc, od, .func (PySem.W.fnOf x q pa bo sc (.ref dT) kV doc pm an cdv ct), osl⟩ ∧ PySem.W.codeIn K cdv q = true ∧ PySem.W.keepIn K (.ref (fAd K p)) = true ∧
      K.lookup dT = some ⟨dc, dd, .seq (List.toArray l) n, dsl⟩ ∧ Vals (v.v K :: vs.map (Dv.v K)) l := by
  obtain ⟨oc, od, dV, kV, doc, pm, an, cdv, ct, clo, osl, e, hc, h1, h2, _, h4⟩ := c.def_ i h
  have hcl : clo = [] := List.map_eq_nil_iff.mp hc
  subst hcl
  obtain ⟨T, dc, dd, l, n, dsl, e1, e2, e3⟩ := dfl_cons h2
  subst e1
  exact ⟨oc, od, T, kV, doc, pm, an, cdv, ct, osl, dc, dd, l, n, dsl, e, h1, h4, e2, e3⟩
/-- an own error's __init__ -/
theorem Says.init (c : Says file ex fn ts w K) (i : Nat) {p : Str × Option Str} {x q C : Str} {pa : Arguments} {bo : List Stmt} {sc : Scope} (h : fn[i]? = some ⟨p, x, q, pa, bo, sc, [], some C⟩) :
    ∃ oc od kV doc pm an cda ct cc osl ccl cdd ccs vs0 tf cl cld csl, K.lookup (fAd K p) = some ⟨oc, od, .func (PySem.W.ksFn x q pa bo sc .none kV doc pm an (.ref cda) ct cc), osl⟩ ∧ PySem.W.codeIn K (.ref cda) q = true ∧
      K.lookup cda = some ⟨ccl, cdd, .fields vs0, ccs⟩ ∧ vs0[2]? = some (.str file tf) ∧ K.lookup cc = some ⟨cl, cld, .cell (some (.ref (ga K C))), csl⟩ := by
  obtain ⟨oc, od, dV, kV, doc, pm, an, cdv, ct, clo, osl, e, hc, h1, h2, h3, h4⟩ := c.def_ i h
  have hd := dfl_nil h2
  subst hd
  obtain ⟨cc, cda, ccl, cdd, ccs, vs0, tf, cl, cld, csl, e1, e2, e3, e4, e5⟩ := cell_ok h3 hc
  have e1 : clo = _ := e1
  have e2 : cdv = _ := e2
  subst e1 e2
  exact ⟨oc, od, kV, doc, pm, an, cda, ct, cc, osl, ccl, cdd, ccs, vs0, tf, cl, cld, csl, e, h1, e3, e4, e5⟩
theorem Says.tab (c : Says file ex fn ts w K) (i : Nat) {f : Fr → Addr} {ks : List Str} (h : ts[i]? = some (f, ks)) : dicW K (f K) = some (He.keysIn w.params ks) := by
  have e : ts.map (fun t => dicW K (t.1 K)) = ts.map fun t => some (He.keysIn w.params t.2) := congrArg (fun z : AlF => z.2.2) c
  have e2 : (ts.map fun t => dicW K (t.1 K))[i]? = (ts.map fun t => some (He.keysIn w.params t.2))[i]? := by rw [e]
  rw [List.getElem?_map, List.getElem?_map, h] at e2
  exact Option.some.inj e2
end
end HdF
set_option Elab.async false
set_option linter.all false
set_option maxRecDepth 100000
set_option maxHeartbeats 4000000
/-! HdF, where some defs make functions: their tables of code objects are looked at too. -/
namespace HdT
open PySem PySem.Spec PyProof.Rows L2 He HdF
def tabE (g : Addr → Option Obj) (K : Fr) (p : Str × Option Str) : Bool := match K.lookup (fAd K p) with
  | some ⟨_, _, .func fd, _⟩ => (match fd.code with
    | .ref c => (match K.lookup c with
      | some ⟨_, _, .fields vs, _⟩ => (match (vs[11]? : Option Value) with
        | some (.ref P) => PySem.W.codeHdIn K c P && ((match K.lookup P with
          | none => true
          | some _ => false) && (match g P with
          | some ⟨.none, none, .fields ts, sl⟩ => ts.isEmpty && sl.isEmpty
          | _ => false))
        | _ => false)
      | _ => false)
    | _ => false)
  | _ => false
def TabIs (h : Heap) (K : Fr) (p : Str × Option Str) : Prop := ∃ (oc : Value) (od : Option Addr) (fd : FuncData) (osl : Array (Option Value)) (c P : Addr), K.lookup (fAd K p) = some ⟨oc, od, .func fd, osl⟩ ∧ fd.code = .ref c ∧ PySem.W.codeHdIn K c P = true ∧ K.lookup P = none ∧
  h.get? P = some { cls := .none, data := .fields #[] }
theorem tabE_ok {h : Heap} {K : Fr} {p : Str × Option Str} (e : tabE h.get? K p = true) : TabIs h K p := by
  unfold tabE at e
  split at e
  · rename_i oc od fd osl e1
    split at e
    · rename_i c e2
      split at e
      · rename_i o1 o2 vs o3 e3
        split at e
        · rename_i P e4
          obtain ⟨a1, a2⟩ := ba e
          obtain ⟨a3, a4⟩ := ba a2
          have nP : K.lookup P = none := by
            split at a3
            · rename_i z
              exact z
            · cases a3
          split at a4
          · rename_i ts sl e5
            obtain ⟨b1, b2⟩ := ba a4
            have c1 := Array.isEmpty_iff.mp b1
            have c2 := Array.isEmpty_iff.mp b2
            subst c1 c2
            exact ⟨oc, od, fd, osl, c, P, e1, e2, a1, nP, e5⟩
          · cases a4
        · cases e
      · cases e
    · cases e
  · cases e
theorem tab_of {h : Heap} {K : Fr} {p : Str × Option Str} {oc : Value} {od : Option Addr} {fd : FuncData} {osl : Array (Option Value)} (l : K.lookup (fAd K p) = some ⟨oc, od, .func fd, osl⟩) (t : TabIs h K p) :
    ∃ c P : Addr, fd.code = .ref c ∧ PySem.W.codeHdIn K c P = true ∧ K.lookup P = none ∧ h.get? P = some { cls := .none, data := .fields #[] } := by
  obtain ⟨oc', od', fd', osl', c, P, e1, e2, e3, e4, e5⟩ := t
  rw [l] at e1
  have e6 : fd = fd' := by
    injection e1 with e1
    injection e1 with _ _ e1 _
    injection e1
  subst e6
  exact ⟨c, P, e2, e3, e4, e5⟩
abbrev AlT : Type := AlF × Bool
def obsTG (n : Nat) (file : Str) (ex : Ex) (fn : List DefF) (ts : List Tab) (tl : List (Str × Option Str)) (g : Addr → Option Obj) : AlT := topC g n fun K => (obsF file ex fn ts K, tl.all fun p => tabE g K p)
def hookT (n : Nat) (file : Str) (ex : Ex) (fn : List DefF) (ts : List Tab) (tl : List (Str × Option Str)) : PySem.W.Hook where
  α := AlT
  obs := fun s => obsTG n file ex fn ts tl s.heap.get?
  val := fun w => (valF fn ts w, true)
  says := fun w h => ∃ K : Fr, K.In h ∧ Says file ex fn ts w K ∧ ∀ p ∈ tl, TabIs h K p
  of := fun w s e => by
    obtain ⟨K, h, q⟩ := topC_ok (g := s.heap.get?) n
    have e2 : (obsF file ex fn ts K, tl.all fun p => tabE s.heap.get? K p) = (valF fn ts w, true) := (q AlT _).symm.trans e
    refine ⟨K, good_in h, congrArg Prod.fst e2, fun p hp => tabE_ok ?_⟩
    exact List.all_eq_true.mp (congrArg Prod.snd e2) p hp
  keeps := fun _ _ _ ⟨K, hK, c, t⟩ k => ⟨K, PySem.W.Frag.In.keeps hK k, c, fun p hp => by
    obtain ⟨oc, od, fd, osl, c, P, e1, e2, e3, e4, e5⟩ := t p hp
    exact ⟨oc, od, fd, osl, c, P, e1, e2, e3, e4, k _ _ e5⟩⟩
theorem obsTG_eq {n : Nat} {file : Str} {ex : Ex} {fn : List DefF} {ts : List Tab} {tl : List (Str × Option Str)} {g : Addr → Option Obj} {s : Shared} (h : ∀ a, g a = s.heap.get? a) : obsTG n file ex fn ts tl g = (hookT n file ex fn ts tl).obs s := by
  have e : g = s.heap.get? := funext h
  rw [e] <;> rfl
end HdT
set_option Elab.async false
set_option linter.all false
set_option maxRecDepth 100000
set_option maxHeartbeats 4000000
namespace Toy
open PySem L2 NdefX LamX Gm
open Mine hiding same_new
def lsU : LamP.LS := LamP.LS.of (callArg 1 (asgVal ((defBody s_until_bad).getD 0 (.Pass ⟨0, 0, 0, 0⟩)))) (("until_bad" : Str) ++ ".<locals>." ++ "<lambda>")
def nmL : Nat → Nat → Str := fun _ _ => ("until_bad" : Str) ++ ".<locals>." ++ "<lambda>"
theorem nd_until_bad : ndefB (defScope s_until_bad) lsU.scope [] = true := by decide +kernel
theorem nsc_until_bad : NScope ["statement"] ["statement"] [] lsU.scope := nscope_by (by decide +kernel)
/-- sizes of games that are walked -/
structure SzU (G : Ga) : Prop where
  f : GaF 6 6 G
  n : G.procs.length ≤ 1000
  t : ∀ p ∈ G.procs, p.block.tot ≤ 700
def spWi (K : PySem.W.Frag) : Sp := fun vs H Q _ => ∃ (v : V) (s : Stm), vs = [v] ∧ Dp K H v s.d ∧ ∀ (u : V) (H' : Hp), Same H H' → Dp K H' u s.wi.d → Q u H'
section
variable {P : Program} {w : World} {K : PySem.W.Frag} {mg : Str → Option Value} {base : Heap} {file : Str}
structure TBs (T : Txt K mg file) (base : Heap) : Prop where
  until_bad : TabB base mg T.cda_until_bad T.tb_until_bad
def tbs (T : Txt K mg file) : List NTab := [(T.tb_until_bad, nmL)]
theorem tbs_nm {T : Txt K mg file} {p : NTab} (h : p ∈ tbs T) : p.2 = nmL := by
  unfold tbs at h
  rw [List.mem_singleton.mp h]
def spUB (K : PySem.W.Frag) {mg : Str → Option Value} {file : Str} (T : Txt K mg file) : Sp := fun vs H Q _ => ∃ (g : Addr) (G : Ga), vs = [.ref g] ∧ GmD K T.C_Game H g G ∧ SzU G ∧ TabsN (tbs T) H ∧ ∀ (g' : Addr) (H' : Hp), Mo H H' → TabsN (tbs T) H' → GmD K T.C_Game H' g' G.ub → Q (.ref g') H'
def spAlk (K : PySem.W.Frag) {mg : Str → Option Value} {file : Str} (T : Txt K mg file) : Sp := fun vs H Q _ => ∃ (g h : Addr) (G F : Ga), vs = [.ref g, .ref h] ∧ GmD K T.C_Game H g G ∧ GmD K T.C_Game H h F ∧ SzU G ∧ SzU F ∧ TabsN (tbs T) H ∧ ∀ (b : Bool) (H' : Hp), (b = true ↔ G.ub = F.ub) → Mo H H' → TabsN (tbs T) H' → Q (.bl b) H'
theorem ok_wi (T : Txt K mg file) : FnOk P w K mg base CX0 1 T.a_without_inner T.fd_without_inner ["statement"] (spWi K) := by
  refine T.F_without_inner.ok sc_without_inner (fun vs H Q E h => ?_) (fun cdv A outer s H vs Q E hr h => ?_)
  · obtain ⟨v, s, rfl, _⟩ := h
    rfl
  obtain ⟨v, s, rfl, dv, q⟩ := h
  refine ⟨_, (pss_one (ps_ret (pe_ifExp (pt_cmpR op_eq (pe_ix ix_tup (pv 0) pe_int (fun _ _ => rfl)) pe_str (nomark _)) (pe_tup (pa_cons pe_str (pa_cons (pe_tup pa_nil) pa_nil))) (pv 0)))), ?_⟩
  have dv0 := dv
  obtain ⟨a, rr, rfl, ha, dr⟩ := stm_inv dv
  refine ⟨_, rfl, a, _, 0, _, rfl, rfl, ha, atI_nat (j := 0) rfl, rfl, _, rfl, ite2 (fun c => ?_) (fun c => ?_)⟩
  · have c : s.kind = "after" := V.str.inj (of_decide_eq_true c)
    obtain ⟨b, rfl⟩ := after_is c
    refine ⟨by show 0 ≤ sizeLine; decide, fun t1 n1 => ⟨by show 2 ≤ sizeLine; decide, fun t2 n2 => ?_⟩⟩
    have e1 := same_new n1 (.tup ([] : List V))
    have e2 := same_new n2 (.tup [V.str "after", .ref t1])
    refine q _ _ (e1.trans e2) ?_
    show Dp K _ (.ref t2) (Stm.after .nil).d
    unfold Stm.d Blk.ds
    exact .tup (SqT.of upd_same) (.cons (.str _) (.cons (.tup (SqT.of (e2 _ _ upd_same)) .nil) .nil))
  · have e : s.wi = s := by
      cases s <;> first | rfl | exact absurd rfl (fun z => c (decide_eq_true z))
    rw [e] at q
    exact ⟨_, rfl, q _ _ (Same.refl _) dv0⟩
theorem lam_ub (T : Txt K mg file) : LamP.CallOk P w K mg base 2 (fun H f => LamP.LamAt H f lsU [] []) (spChg K (fun _ => True) gU) := by
  have G_without_inner : FnOk P w K mg base CX0 1 T.a_without_inner T.fd_without_inner ["statement"] (spWi K) := ok_wi T
  refine LamP.lam_ok nsc_until_bad (fun _ _ _ _ us hl => match us, hl with | [_], _ => rfl) (fun vs H Q E h => ?_) (fun cl c f A outer s H Hd vs Q E hr h md => ?_)
  · obtain ⟨v, s, rfl, _⟩ := h
    rfl
  obtain ⟨v, s, rfl, dv, hw, q⟩ := h
  have dv0 := dp_mo (Mo.most md) _ _ dv
  refine ⟨_, (pe_tup (pa_cons (pe_call G_without_inner (hr.mono (by omega)) rfl T.g_without_inner T.k_without_inner T.b_without_inner .nil pass0 (pa_cons (pv 0) pa_nil)) pa_nil)), ?_⟩
  refine ⟨_, rfl, v, s, rfl, dv0, fun u H1 m1 du => ⟨by show 1 ≤ sizeLine; decide, fun t ht H3 m3 m4 => ?_⟩⟩
  have m2 := same_new ht (.tup [u])
  refine q _ _ (m4 (m1.trans m2)) (dp_mono m3 _ _ ?_)
  exact .tup (SqT.of upd_same) (.cons (dp_mono m2 _ _ du) .nil)
theorem ok_ub (T : Txt K mg file) (TB : TBs T base) : FnOk P w K mg base CX0 22 T.a_until_bad T.fd_until_bad ["game"] (spUB K T) := by
  have G_with_changed_statements : FnOk P w K mg base CX0 19 T.a_with_changed_statements T.fd_with_changed_statements ["game", "change"] (spWCS K T.C_Game (fun H f => LamP.LamAt H f lsU [] []) gU 6 6) := ok_wcs T (lam_ub T) (fun _ _ _ => trivial) (fun s => by show 1 ≤ 10; decide) 6
  refine LamP.okC T.F_until_bad sc_until_bad (fun vs H Q E h => ?_) (fun cdv hcd A outer s H vs Q E hr h => ?_)
  · obtain ⟨g, G, rfl, _⟩ := h
    rfl
  obtain ⟨g, G, rfl, hg, sz, tb, q⟩ := h
  refine ⟨_, (pss_one (ps_ret (LamP.pe_callLk (fr := []) (js := []) G_with_changed_statements (hr.mono (by omega)) rfl T.g_with_changed_statements T.k_with_changed_statements T.b_with_changed_statements (fun _ => rfl) (ndef_free nd_until_bad) (ndef_fr nd_until_bad) nsc_until_bad.free rfl (pa_cons (pv 0) (pa_cons (LamP.pe_lamP (T := tbs T) (nm := nmL) TB.until_bad (hcd.symm.trans T.qc_until_bad) (by simp [tbs]) (fun p hp _ => tbs_nm hp) rfl rfl (ndef_free nd_until_bad)) pa_nil))))), ?_⟩
  refine ⟨_, rfl, tb, fun f H1 ex tb1 hf => ⟨[], rfl, fun H2 m2 hc => ?_⟩⟩
  have mo := (Mo.ext ex).trans (Mo.of m2)
  refine ⟨g, f, G, rfl, ⟨_, hf.mono m2, hc⟩, hg.mo mo, sz.n, fun p hp => ⟨(sz.f.procs p hp).block, sz.t p hp⟩, fun g' H' m3 hg' H3 mm => ?_⟩
  exact q g' H3 (mo.trans ((Mo.of m3).trans (Mo.most mm))) (LamP.TabsN.most (tabs_same (tabs_same tb1 m2) m3) mm) (hg'.mo (Mo.most mm))
theorem ok_alike (T : Txt K mg file) (TB : TBs T base) : FnOk P w K mg base CX0 24 T.a_alike T.fd_alike ["game", "other"] (spAlk K T) := by
  have G_until_bad : FnOk P w K mg base CX0 22 T.a_until_bad T.fd_until_bad ["game"] (spUB K T) := ok_ub T TB
  have G_Game_eq : FnOk P w K mg base CX0 1 T.a_Game_eq T.fd_Game_eq ["self", "other"] (spGEq K T.C_Game) := ok_geq T
  refine T.F_alike.ok sc_alike (fun vs H Q E h => ?_) (fun cdv A outer s H vs Q E hr h => ?_)
  · obtain ⟨g, h', G, F, rfl, _⟩ := h
    rfl
  obtain ⟨g, h', G, F, rfl, hg, hh, sG, sF, tb, q⟩ := h
  refine ⟨_, (pss_one (ps_ret (pe_cmpR (op_ownEq G_Game_eq (hr.mono (by omega)) T.b_Game_eq pass0 T.m_Game_eq.at_ T.m_Game_eq.fn) (pe_call G_until_bad (hr.mono (by omega)) rfl T.g_until_bad T.k_until_bad T.b_until_bad .nil pass0 (pa_cons (pv 0) pa_nil)) (pe_call G_until_bad (hr.mono (by omega)) rfl T.g_until_bad T.k_until_bad T.b_until_bad .nil pass0 (pa_cons (pv 1) pa_nil)) (nomark _)))), ?_⟩
  refine ⟨_, rfl, g, G, rfl, hg, sG, tb, fun g1 H1 m1 tb1 hg1 => ?_⟩
  refine ⟨_, rfl, h', F, rfl, hh.mo m1, sF, tb1, fun g2 H2 m2 tb2 hg2 => ?_⟩
  have hg1' := hg1.mo m2
  obtain ⟨dx, _, _, _, _, o1, _⟩ := id hg1'
  obtain ⟨dy, _, _, _, _, o2, _⟩ := id hg2
  exact ⟨g1, g2, dx, dy, _, _, rfl, rfl, o1, o2, g1, g2, G.ub, F.ub, 6, 6, 6, 6, rfl, hg1', hg2, Ga.ub_fit sG.f, Ga.ub_fit sF.f, by decide, by decide, fun b hb => q b H2 hb (m1.trans m2) tb2⟩
end
end Toy
set_option Elab.async false
set_option linter.all false
set_option maxRecDepth 100000
set_option maxHeartbeats 4000000
namespace Toy
open PySem L2 NdefX LamX Gm
open Mine hiding same_new
theorem dA : ¬ (("first" : Str) = "last") := by decide +kernel
theorem dB : ¬ (("first" : Str) = "bound") := by decide +kernel
theorem dC : ¬ (("last" : Str) = "bound") := by decide +kernel
def df (g : Addr) (b : Addr) : List (Str × V) := putF "bound" (.ref b) (putF "last" (.ref g) (putF "first" (.ref g) []))
theorem df_last (g b : Addr) : (df g b).lookup ("last" : Str) = some (.ref g) := by unfold df; rw [lookup_putF, if_neg dC, lookup_putF, if_pos rfl]
theorem df_no (g b : Addr) {m : Str} (h1 : ¬ m = "first") (h2 : ¬ m = "last") (h3 : ¬ m = "bound") : (df g b).lookup m = none := by
  unfold df
  rw [lookup_putF, if_neg h3, lookup_putF, if_neg h2, lookup_putF, if_neg h1]
  rfl
def spDInit (C : Addr) : Sp := fun vs H Q _ => ∃ (p dx g : Addr), vs = [.ref p, .ref g] ∧ H p = some (.ins C dx []) ∧ ∀ (b : Addr) (H' : Hp), (∀ x o, H x = some o → x ≠ p → H' x = some o) → H' p = some (.ins C dx (df g b)) → Q .non H'
section
variable {P : Program} {w : World} {K : PySem.W.Frag} {mg : Str → Option Value} {base : Heap} {file : Str}
/-- the step until is refused -/
def RfM {mg : Str → Option Value} {file : Str} (K : PySem.W.Frag) (T : Txt K mg file) (H : Hp) (E : XK) : Prop := ∀ (d : Addr) (H' : Hp), Mo H H' → TabsN (tbs T) H' → H' d = some (.xd [("rule", .str "until")]) → E (.ref T.C_BadStep) (some d) H'
structure Unl {mg : Str → Option Value} {file : Str} (K : PySem.W.Frag) (T : Txt K mg file) (H : Hp) (g t : Addr) : Prop where
  ex : ∃ (h : Addr) (G F : Ga), SqT K H t [.str "until", .ref h] ∧ GmD K T.C_Game H g G ∧ GmD K T.C_Game H h F ∧ SzU G ∧ SzU F ∧ G.ub ≠ F.ub
  tb : TabsN (tbs T) H
def spBU {mg : Str → Option Value} {file : Str} (K : PySem.W.Frag) (T : Txt K mg file) : Sp := fun vs H Q E => ∃ (g t : Addr), vs = [.ref g, .ref t] ∧ Unl K T H g t ∧ RfM K T H E
def spStep {mg : Str → Option Value} {file : Str} (K : PySem.W.Frag) (T : Txt K mg file) : Sp := fun vs H Q E => ∃ (p g b dx t : Addr), vs = [.ref p, .ref t] ∧ H p = some (.ins T.C_Derivation dx (df g b)) ∧ Unl K T H g t ∧ RfM K T H E
theorem ok_dinit (T : Txt K mg file) : FnOk P w K mg base CX0 5 T.a_Derivation_init T.fd_Derivation_init ["self", "game"] (spDInit T.C_Derivation) := by
  have G_nothing : FnOk P w K mg base CX0 3 T.a_nothing T.fd_nothing [] (spNothing T.C_Bound T.C_Ratio) := ok_nothing T
  refine T.F_Derivation_init.ok sc_Derivation_init (fun vs H Q E h => ?_) (fun cdv A outer s H vs Q E hr h => ?_)
  · obtain ⟨p, dx, g, rfl, _⟩ := h
    rfl
  obtain ⟨p, dx, g, rfl, hp, q⟩ := h
  refine ⟨_, (pss_cons (ps_fld (pv 0) (pv 1) rfl)
    (pss_cons (ps_fld (pv 0) (pv 1) rfl)
    (pss_one (ps_fld (pv 0) (pe_call0 G_nothing (hr.mono (by decide)) rfl T.g_nothing T.k_nothing T.b_nothing .nil pass0) rfl)))), ?_⟩
  refine ⟨_, rfl, _, rfl, p, T.C_Derivation, dx, [], rfl, hp, T.cl_Derivation, T.na_Derivation_first, (by show 0 < 1000; decide), ?_⟩
  refine ⟨_, rfl, _, rfl, p, T.C_Derivation, dx, _, rfl, upd_same, T.cl_Derivation, T.na_Derivation_last, (by show 1 < 1000; decide), ?_⟩
  refine ⟨rfl, fun b H1 m1 bv => ?_⟩
  have k1 := m1 _ _ upd_same
  refine ⟨_, rfl, p, T.C_Derivation, dx, _, rfl, k1, T.cl_Derivation, T.na_Derivation_bound, (by show 2 < 1000; decide), ?_⟩
  refine q b _ (fun x o e n => ?_) ?_
  · rw [upd_ne n]
    exact m1 _ _ (by rw [upd_ne n, upd_ne n]; exact e)
  · rw [upd_same]
    rfl
theorem ok_bu (hP : PrF P file) (T : Txt K mg file) (TB : TBs T base) : FnOk P w K mg base (L2.CX P w) 26 T.a_behind_until T.fd_behind_until ["game", "step"] (spBU K T) := by
  have G_alike : FnOk P w K mg base CX0 24 T.a_alike T.fd_alike ["game", "other"] (spAlk K T) := ok_alike T TB
  refine T.F_behind_until.okX sc_behind_until (fun vs H Q E h => ?_) (fun cdv A outer s H vs Q E hr h => ?_)
  · obtain ⟨g, t, rfl, _⟩ := h
    rfl
  obtain ⟨g, t, rfl, ⟨⟨h', G, F, ht, hg, hh, sG, sF, ne⟩, tb⟩, q⟩ := h
  refine ⟨_, (pss_cons (ps_asg (pv 1) (pg_tup rfl (pgs_cons (pg_name (i := 2) sc_behind_until.nd rfl (Or.inl rfl)) (pgs_cons (pg_name (i := 3) sc_behind_until.nd rfl (Or.inl rfl)) pgs_nil))))
    (pss_cons (ps_if (pt_not (pt_val (pe_call G_alike (hr.mono (by omega)) rfl T.g_alike T.k_alike T.b_alike .nil pass0 (pa_cons (pv 0) (pa_cons (pv 3) pa_nil)))))
      (pss_one (ps_raise rfl (takes_of rfl rfl rfl rfl) (pmk_err T.E_BadStep (err_BadStep (k := 0) T.E_BadStep hP) T.b_BadStep_init (hr.mono (by omega)) rfl T.g_BadStep (pa_cons pe_str pa_nil))))
      pss_nil)
    (pss_one ps_never))), ?_⟩
  refine ⟨_, rfl, t, _, rfl, ht, rfl, _, _, rfl, ?_⟩
  refine gn ?_
  refine ⟨_, _, rfl, ?_⟩
  refine gn ?_
  refine ⟨rfl, ?_⟩
  refine ⟨_, rfl, _, rfl, g, h', G, F, rfl, hg, hh, sG, sF, tb, fun b H1 hb m1 tb1 => ?_⟩
  have hb0 : b = false := by
    cases b with
    | false => rfl
    | true => exact absurd (hb.mp rfl) ne
  subst hb0
  refine ⟨_, rfl, iteT ?_⟩
  refine ⟨_, rfl, ⟨"until", rfl, by decide +kernel⟩, fun d hd => ?_⟩
  have e1 := same_new hd (.xd [("rule", .str "until")])
  exact q d _ (m1.trans (Mo.of e1)) (tabs_same tb1 e1) upd_same
theorem ok_beh (hP : PrF P file) (T : Txt K mg file) (TB : TBs T base) : FnOk P w K mg base (L2.CX P w) 28 T.a_behind T.fd_behind ["game", "step"] (spBU K T) := by
  have G_behind_until : FnOk P w K mg base (L2.CX P w) 26 T.a_behind_until T.fd_behind_until ["game", "step"] (spBU K T) := ok_bu hP T TB
  refine T.F_behind.okX sc_behind (fun vs H Q E h => ?_) (fun cdv A outer s H vs Q E hr h => ?_)
  · obtain ⟨g, t, rfl, _⟩ := h
    rfl
  obtain ⟨g, t, rfl, un, q⟩ := h
  obtain ⟨h', G, F, ht, _⟩ := id un.ex
  refine ⟨_, (pss_cons (ps_if (pt_cmpR op_eq (pe_ix ix_tup (pv 1) pe_int (fun _ _ => rfl)) pe_str (nomark _)) pss_never pss_nil)
    (pss_cons (ps_if (pt_cmpR op_eq (pe_ix ix_tup (pv 1) pe_int (fun _ _ => rfl)) pe_str (nomark _))
      (pss_one (ps_ret (pe_call G_behind_until (hr.mono (by omega)) rfl T.g_behind_until T.k_behind_until T.b_behind_until .nil (passes_call (takes_of rfl rfl rfl rfl) (fun _ _ _ _ z => z)) (pa_cons (pv 0) (pa_cons (pv 1) pa_nil)))))
      pss_nil)
    (pss_cons ps_never
    (pss_cons ps_never
    (pss_one ps_never))))), ?_⟩
  have s0 : atI [V.str "until", V.ref h'] 0 = some (.str "until") := atI_nat (j := 0) rfl
  refine ⟨_, rfl, t, _, 0, _, rfl, rfl, ht, s0, rfl, _, rfl, ite_no (by decide) ?_⟩
  refine ⟨_, rfl, t, _, 0, _, rfl, rfl, ht, s0, rfl, _, rfl, ite_yes (by decide) ?_⟩
  exact ⟨_, rfl, _, rfl, g, t, rfl, un, q⟩
theorem ok_step (hP : PrF P file) (T : Txt K mg file) (TB : TBs T base) : FnOk P w K mg base (L2.CX P w) 30 T.a_Derivation_step T.fd_Derivation_step ["self", "step"] (spStep K T) := by
  have G_behind : FnOk P w K mg base (L2.CX P w) 28 T.a_behind T.fd_behind ["game", "step"] (spBU K T) := ok_beh hP T TB
  refine T.F_Derivation_step.okX sc_Derivation_step (fun vs H Q E h => ?_) (fun cdv A outer s H vs Q E hr h => ?_)
  · obtain ⟨p, g, b, dx, t, rfl, _⟩ := h
    rfl
  obtain ⟨p, g, b, dx, t, rfl, hp, un, q⟩ := h
  refine ⟨_, (pss_cons (ps_asg (pe_call G_behind (hr.mono (by omega)) rfl T.g_behind T.k_behind T.b_behind .nil (passes_call (takes_of rfl rfl rfl rfl) (fun _ _ _ _ z => z)) (pa_cons (pe_fld (pv 0) rfl) (pa_cons (pv 1) pa_nil))) (pg_tup rfl (pgs_cons (pg_name (i := 2) sc_Derivation_step.nd rfl (Or.inl rfl)) (pgs_cons (pg_name (i := 3) sc_Derivation_step.nd rfl (Or.inl rfl)) pgs_nil))))
    (pss_cons ps_never
    (pss_one ps_never))), ?_⟩
  exact ⟨_, rfl, p, _, dx, _, _, rfl, hp, T.cl_Derivation, T.na_Derivation_last, df_last g b, _, rfl, g, t, rfl, un, q⟩
end
end Toy
set_option Elab.async false
set_option linter.all false
set_option maxRecDepth 100000
set_option maxHeartbeats 4000000
namespace Toy
open PySem L2 NdefX Gm Pz
open Mine hiding same_new
theorem none_of_same {H H' : Hp} {a : Addr} (s : Same H H') (h : H' a = none) : H a = none := by
  cases e : H a with
  | none => rfl
  | some o => rw [s _ _ e] at h; cases h
theorem Tups.dK {H : Hp} {l : Addr} {xs : List (Key × V)} {o : HO} (h : H l = some (.dK xs)) : Tups H (upd H l o) := fun b u e k => by
  rw [upd_ne]
  · exact e
  · intro z
    subst z
    rw [h] at e
    cases e
    rcases k with ⟨_, z⟩ | ⟨_, _, z⟩ <;> cases z
def But2 (p r : Addr) (H H' : Hp) : Prop := ∀ b o, H b = some o → b ≠ p → b ≠ r → H' b = some o
theorem But2.same {p r : Addr} {H H' : Hp} (s : Same H H') : But2 p r H H' := fun b o e _ _ => s _ _ e
abbrev Row := Str × Int × Int
/-- the numbers of a script, drawn one after the other; b: what may still be spent -/
def PoolB (H : Hp) (a l : Addr) (ns : List Int) (b : Int) : Prop := ∃ (p1 p2 p3 p4 : Int), H a = some (.lst [.ref l, .int p1, .int p2, .int p3, .int p4, .int b]) ∧ H l = some (.lst (ns.map V.int)) ∧ l ≠ a ∧ 0 ≤ p1
theorem PoolB.same {H H' : Hp} {a l : Addr} {ns : List Int} {b : Int} (h : PoolB H a l ns b) (s : Same H H') : PoolB H' a l ns b :=
  let ⟨p1, p2, p3, p4, e, el, n, z⟩ := h
  ⟨p1, p2, p3, p4, s _ _ e, s _ _ el, n, z⟩
theorem PoolB.ne {H : Hp} {a l c : Addr} {ns : List Int} {b : Int} (h : PoolB H a l ns b) (n : H c = none) : c ≠ a ∧ c ≠ l := by
  obtain ⟨_, _, _, _, e, el, _⟩ := h
  refine ⟨fun z => ?_, fun z => ?_⟩
  · rw [z, e] at n
    cases n
  · rw [z, el] at n
    cases n
theorem PoolB.upd {H : Hp} {a l c : Addr} {ns : List Int} {b : Int} {o : HO} (h : PoolB H a l ns b) (n : c ≠ a ∧ c ≠ l) : PoolB (upd H c o) a l ns b :=
  let ⟨p1, p2, p3, p4, e, el, n', z⟩ := h
  ⟨p1, p2, p3, p4, by rw [upd_ne (Ne.symm n.1)]; exact e, by rw [upd_ne (Ne.symm n.2)]; exact el, n', z⟩
def spPool (K : PySem.W.Frag) : Sp := fun vs H Q _ => ∃ (s : Addr) (ns : List Int) (b : Int), vs = [.ref s, .int b] ∧ SqL K H s (ns.map V.int) ∧ ∀ a l H', Same H H' → H a = none → PoolB H' a l ns b → Q (.ref a) H'
def spDraw : Sp := fun vs H Q _ => ∃ (a l : Addr) (ns : List Int) (b : Int) (size : Int), vs = [.ref a, .int size] ∧ PoolB H a l ns b ∧ 0 < size ∧ size ≤ 10000000 ∧ ∀ (r : Int) (H' : Hp), 0 ≤ r → r < size → But a H H' → PoolB H' a l ns b → Q (.int r) H'
def spSpend : Sp := fun vs H Q _ => ∃ (a l : Addr) (ns : List Int) (b : Int), vs = [.ref a] ∧ PoolB H a l ns b ∧ ∀ H', But a H H' → PoolB H' a l ns (b - 1) → Q (.bl (decide (0 ≤ b - 1))) H'
def spNumb : Sp := fun vs H Q _ => ∃ (a l : Addr) (ns : List Int) (b : Int), vs = [.ref a] ∧ PoolB H a l ns b ∧ ∀ (r : Int) (H' : Hp), 0 ≤ r → r ≤ 65535 → But a H H' → PoolB H' a l ns b → Q (.int r) H'
section
variable {P : Program} {w : World} {K : PySem.W.Frag} {mg : Str → Option Value} {base : Heap} {file : Str}
theorem ok_draw (T : Txt K mg file) : FnOk P w K mg base CX0 1 T.a_law_draw T.fd_law_draw ["pool", "size"] spDraw := by
  refine T.F_law_draw.ok sc_law_draw (fun vs H Q E h => ?_) (fun cdv A outer s H vs Q E hr h => ?_)
  · obtain ⟨a, l, ns, z, z2, rfl, _⟩ := h
    rfl
  obtain ⟨a, l, ns, p5, size, rfl, hp, s0, s1, q⟩ := h
  refine ⟨_, (pss_cons (ps_if (PW.pt (pw_and (pt_cmpR op_le (pe_ix ix_list (pv 0) pe_int (fun _ _ => rfl)) pe_int (nomark _)) (pw_and (pt_cmpR op_le (pe_ix ix_list (pv 0) pe_int (fun _ _ => rfl)) pe_int (nomark _)) (pw_and1 (pt_cmpR op_lt (pe_ix ix_list (pv 0) pe_int (fun _ _ => rfl)) (pe_callB call_len_seq (by rfl) T.z_len (by decide +kernel) (pa_cons (pe_ix ix_list (pv 0) pe_int (fun _ _ => rfl)) pa_nil)) (nomark _))))))
      (pss_cons (ps_set (i := 2) sc_law_draw.nd rfl (Or.inl rfl) (pe_ix ix_list (pe_ix ix_list (pv 0) pe_int (fun _ _ => rfl)) (pe_ix ix_list (pv 0) pe_int (fun _ _ => rfl)) (fun _ _ => rfl)))
    (pss_cons (ps_asg (pe_op op_add (pe_ix ix_list (pv 0) pe_int (fun _ _ => rfl)) pe_int) (pg_sub (pv 0) pe_int set_list))
    (pss_cons (ps_asg (pe_op op_mod (pe_callTy call_int1 (by rfl) T.z_int (by decide +kernel) (pa_cons (pe_op op_add (pe_op op_mul (pe_ix ix_list (pv 0) pe_int (fun _ _ => rfl)) pe_int) (pv 2)) pa_nil)) pe_int) (pg_sub (pv 0) pe_int set_list))
    (pss_cons (ps_asg pe_int (pg_sub (pv 0) pe_int set_list))
    (pss_one (ps_if (pt_cmpR op_ge (pv 2) (pe_op op_pow pe_int pe_int) (nomark _))
      (pss_one (ps_asg (pv 2) (pg_sub (pv 0) pe_int set_list)))
      pss_nil))))))
      pss_nil)
    (pss_cons (ps_if (pt_cmpR op_gt (pe_ix ix_list (pv 0) pe_int (fun _ _ => rfl)) pe_int (nomark _))
      (pss_cons (ps_set (i := 3) sc_law_draw.nd rfl (Or.inl rfl) (pe_op op_mod (pe_callTy call_int1 (by rfl) T.z_int (by decide +kernel) (pa_cons (pe_ix ix_list (pv 0) pe_int (fun _ _ => rfl)) pa_nil)) (pv 1)))
    (pss_cons (ps_asg (pe_op op_fdivW (pe_ix ix_list (pv 0) pe_int (fun _ _ => rfl)) (pv 1)) (pg_sub (pv 0) pe_int set_list))
    (pss_cons (ps_asg pe_int (pg_sub (pv 0) pe_int set_list))
    (pss_one (ps_ret (pv 3))))))
      pss_nil)
    (pss_cons (ps_asg (pe_op op_sub (pe_ix ix_list (pv 0) pe_int (fun _ _ => rfl)) pe_int) (pg_sub (pv 0) pe_int set_list))
    (pss_cons (ps_asg (pe_op op_mod (pe_callTy call_int1 (by rfl) T.z_int (by decide +kernel) (pa_cons (pe_op op_add (pe_op op_mul (pe_ix ix_list (pv 0) pe_int (fun _ _ => rfl)) pe_int) pe_int) pa_nil)) pe_int) (pg_sub (pv 0) pe_int set_list))
    (pss_one (ps_ret (pe_op op_mod (pe_op op_mod (pe_callTy call_int1 (by rfl) T.z_int (by decide +kernel) (pa_cons (pe_op op_add (pe_op op_mul (pe_ix ix_list (pv 0) pe_int (fun _ _ => rfl)) pe_int) pe_int) pa_nil)) pe_int) (pv 1)))))))), ?_⟩
  have up : ∀ {H0 H1 : Hp} {o : HO}, But a H0 H1 → But a H0 (upd H1 a o) := fun b x o e n => by
    rw [upd_ne n]
    exact b x o e n
  refine seq_k (fun σ H' => (∃ y2 y3, σ = [some (.ref a), some (.int size), y2, y3]) ∧ But a H H' ∧ PoolB H' a l ns p5) ?_ (fun k => ?_)
  rotate_left
  · have done := k _ H ⟨⟨none, none, rfl⟩, But.same (Same.refl _), hp⟩
    obtain ⟨p1, p2, p3, p4, e, el, nl, z1⟩ := hp
    refine ⟨_, rfl, a, _, 2, _, rfl, rfl, SqL.of e, atI_nat (j := 2) rfl, _, _, rfl, rfl, _, rfl, ite2 (fun _ => ?_) (fun _ => iteF done)⟩
    refine ⟨_, rfl, a, _, 4, _, rfl, rfl, SqL.of e, atI_nat (j := 4) rfl, _, _, rfl, rfl, _, rfl, ite2 (fun _ => ?_) (fun _ => iteF done)⟩
    refine ⟨_, rfl, a, _, 1, _, rfl, rfl, SqL.of e, atI_nat (j := 1) rfl, _, rfl, a, _, 0, _, rfl, rfl, SqL.of e, atI_nat (j := 0) rfl, l, _, rfl, .inl (SqL.of el), _, _, rfl, rfl, _, rfl, ite2 (fun z2 => ?_) (fun _ => done)⟩
    clear done
    have z2' : p1 < (ns.length : Int) := by have := of_decide_eq_true z2; rw [List.length_map] at this; exact this
    obtain ⟨cell, ec⟩ : ∃ cell, ns[p1.toNat]? = some cell := ⟨_, List.getElem?_eq_getElem (by omega)⟩
    refine ⟨_, rfl, a, _, 0, _, rfl, rfl, SqL.of e, atI_nat (j := 0) rfl, _, rfl, a, _, 1, _, rfl, rfl, SqL.of e, atI_nat (j := 1) rfl, l, _, p1, .int cell, rfl, rfl, SqL.of el, at_of (j := p1.toNat) (by omega) (by rw [List.getElem?_map, ec]; rfl), ?_⟩
    -- one more is read
    refine ⟨_, rfl, a, _, 1, _, rfl, rfl, SqL.of e, atI_nat (j := 1) rfl, _, _, rfl, rfl, _, rfl, a, _, 1, 1, rfl, rfl, e, rfl, ?_⟩
    have b1 := up (o := .lst [.ref l, .int (p1 + 1), .int p2, .int p3, .int p4, .int p5]) (But.same (p := a) (Same.refl H))
    have l1 := b1 _ _ el nl
    have e1 : (upd H a (.lst [.ref l, .int (p1 + 1), .int p2, .int p3, .int p4, .int p5])) a = _ := upd_same
    revert b1 l1 e1
    show _ → _ → _ → tSeq _ _ _ _ (upd H a (.lst [.ref l, .int (p1 + 1), .int p2, .int p3, .int p4, .int p5]))
    generalize upd H a (.lst [.ref l, .int (p1 + 1), .int p2, .int p3, .int p4, .int p5]) = H1
    intro b1 l1 e1
    refine ⟨_, rfl, a, _, 3, _, rfl, rfl, SqL.of e1, atI_nat (j := 3) rfl, _, _, rfl, rfl, .inr ⟨by decide, by decide⟩, _, rfl, _, _, rfl, rfl, .inl ⟨_, rfl, _, _, rfl, rfl, (by show (0 : Int) < 2147483647; decide), _, rfl, a, _, 3, 3, rfl, rfl, e1, rfl, ?_⟩⟩
    have b2 := up (o := .lst [.ref l, .int (p1 + 1), .int p2, .int ((p3 * 31 + cell) % 2147483647), .int p4, .int p5]) b1
    have l2 := (up (o := .lst [.ref l, .int (p1 + 1), .int p2, .int ((p3 * 31 + cell) % 2147483647), .int p4, .int p5]) (But.same (p := a) (Same.refl H1))) _ _ l1 nl
    have e2 : (upd H1 a (.lst [.ref l, .int (p1 + 1), .int p2, .int ((p3 * 31 + cell) % 2147483647), .int p4, .int p5])) a = _ := upd_same
    revert b2 l2 e2
    show _ → _ → _ → tSeq _ _ _ _ (upd H1 a (.lst [.ref l, .int (p1 + 1), .int p2, .int ((p3 * 31 + cell) % 2147483647), .int p4, .int p5]))
    generalize upd H1 a (.lst [.ref l, .int (p1 + 1), .int p2, .int ((p3 * 31 + cell) % 2147483647), .int p4, .int p5]) = H2
    generalize (p3 * 31 + cell) % 2147483647 = q3
    intro b2 l2 e2
    refine ⟨_, rfl, a, _, 4, 4, rfl, rfl, e2, rfl, ?_⟩
    have b3 := up (o := .lst [.ref l, .int (p1 + 1), .int p2, .int q3, .int 7, .int p5]) b2
    have l3 := (up (o := .lst [.ref l, .int (p1 + 1), .int p2, .int q3, .int 7, .int p5]) (But.same (p := a) (Same.refl H2))) _ _ l2 nl
    have e3 : (upd H2 a (.lst [.ref l, .int (p1 + 1), .int p2, .int q3, .int 7, .int p5])) a = _ := upd_same
    refine ⟨_, rfl, _, _, rfl, rfl, ⟨by decide, by decide, by decide⟩, _, _, rfl, rfl, _, rfl, ite2 (fun _ => ?_) (fun _ => ?_)⟩
    · refine ⟨_, rfl, _, rfl, a, _, 2, 2, rfl, rfl, e3, rfl, k _ _ ⟨⟨_, _, rfl⟩, up b3, p1 + 1, cell, q3, 7, upd_same, ?_, nl, by omega⟩⟩
      rw [upd_ne nl]
      exact l3
    · exact k _ _ ⟨⟨_, _, rfl⟩, b3, p1 + 1, p2, q3, 7, e3, l3, nl, by omega⟩
  rintro σ H1 ⟨⟨y2, y3, rfl⟩, b1, p1, p2, p3, p4, e1, l1, nl, z1⟩
  refine seq_k (fun σ H' => (∃ y2 y3, σ = [some (.ref a), some (.int size), y2, y3]) ∧ H' = H1 ∧ p2 ≤ 0) ?_ (fun k => ?_)
  rotate_left
  · refine ⟨_, rfl, a, _, 2, _, rfl, rfl, SqL.of e1, atI_nat (j := 2) rfl, _, _, rfl, rfl, _, rfl, ite2 (fun z => ?_) (fun z => ?_)⟩
    rotate_left
    · exact k _ _ ⟨⟨_, _, rfl⟩, rfl, by
        have := of_decide_eq_false (Bool.eq_false_iff.mpr z)
        omega⟩
    have lg : size.natAbs < 2 ^ 100 := by omega
    refine ⟨_, rfl, a, _, 2, _, rfl, rfl, SqL.of e1, atI_nat (j := 2) rfl, .inl ⟨_, rfl, _, rfl, _, _, rfl, rfl, s0, ?_⟩⟩
    refine ⟨_, rfl, a, _, 2, _, rfl, rfl, SqL.of e1, atI_nat (j := 2) rfl, _, rfl, _, _, rfl, rfl, wide_div s0 lg (by decide) (by decide), _, rfl, a, _, 2, 2, rfl, rfl, e1, rfl, ?_⟩
    have b2 := up (o := .lst [.ref l, .int p1, .int (p2 / size), .int p3, .int p4, .int p5]) b1
    have l2 := (up (o := .lst [.ref l, .int p1, .int (p2 / size), .int p3, .int p4, .int p5]) (But.same (p := a) (Same.refl H1))) _ _ l1 nl
    have e2 : (upd H1 a (.lst [.ref l, .int p1, .int (p2 / size), .int p3, .int p4, .int p5])) a = _ := upd_same
    refine ⟨_, rfl, a, _, 4, 4, rfl, rfl, e2, rfl, ?_⟩
    refine ⟨_, rfl, q _ _ (Int.emod_nonneg _ (by omega)) (Int.emod_lt_of_pos _ s0) (up b2) ⟨p1, p2 / size, p3, 0, upd_same, ?_, nl, z1⟩⟩
    rw [upd_ne nl]
    exact l2
  rintro σ H2 ⟨⟨y2, y3, rfl⟩, rfl, _⟩
  refine ⟨_, rfl, a, _, 4, _, rfl, rfl, SqL.of e1, atI_nat (j := 4) rfl, _, _, rfl, rfl, _, rfl, a, _, 4, 4, rfl, rfl, e1, rfl, ?_⟩
  have b2 := up (o := .lst [.ref l, .int p1, .int p2, .int p3, .int (p4 - 1), .int p5]) b1
  have l2 := (up (o := .lst [.ref l, .int p1, .int p2, .int p3, .int (p4 - 1), .int p5]) (But.same (p := a) (Same.refl H2))) _ _ l1 nl
  have e2 : (upd H2 a (.lst [.ref l, .int p1, .int p2, .int p3, .int (p4 - 1), .int p5])) a = _ := upd_same
  refine ⟨_, rfl, a, _, 3, _, rfl, rfl, SqL.of e2, atI_nat (j := 3) rfl, _, _, rfl, rfl, .inr ⟨by decide, by decide⟩, _, _, rfl, rfl, .inl ⟨_, rfl, _, _, rfl, rfl, (by show (0 : Int) < 2147483647; decide), _, rfl, a, _, 3, 3, rfl, rfl, e2, rfl, ?_⟩⟩
  have b3 := up (o := .lst [.ref l, .int p1, .int p2, .int ((p3 * 48271 + 12345) % 2147483647), .int (p4 - 1), .int p5]) b2
  have l3 := (up (o := .lst [.ref l, .int p1, .int p2, .int ((p3 * 48271 + 12345) % 2147483647), .int (p4 - 1), .int p5]) (But.same (p := a) (Same.refl _))) _ _ l2 nl
  have e3 : (upd (upd H2 a (.lst [.ref l, .int p1, .int p2, .int p3, .int (p4 - 1), .int p5])) a (.lst [.ref l, .int p1, .int p2, .int ((p3 * 48271 + 12345) % 2147483647), .int (p4 - 1), .int p5])) a = _ := upd_same
  refine ⟨_, rfl, a, _, 3, _, rfl, rfl, SqL.of e3, atI_nat (j := 3) rfl, _, _, rfl, rfl, .inr ⟨by decide, by decide⟩, _, _, rfl, rfl, .inl ⟨_, rfl, _, _, rfl, rfl, (by show (0 : Int) < 2147483647; decide), _, rfl, _, _, rfl, rfl, s0, ?_⟩⟩
  exact q _ _ (Int.emod_nonneg _ (by omega)) (Int.emod_lt_of_pos _ s0) b3 ⟨p1, p2, _, p4 - 1, e3, l3, nl, z1⟩
theorem ok_pool (T : Txt K mg file) : FnOk P w K mg base CX0 1 T.a_law_pool T.fd_law_pool ["script", "budget"] (spPool K) := by
  refine T.F_law_pool.ok sc_law_pool (fun vs H Q E h => ?_) (fun cdv A outer s H vs Q E hr h => ?_)
  · obtain ⟨a, ns, b, rfl, _⟩ := h
    rfl
  obtain ⟨sa, ns, b, rfl, hs, q⟩ := h
  refine ⟨_, (pss_one (ps_ret (pe_lst (pa_cons (pe_callTy call_list_of (by rfl) T.z_list (by decide +kernel) (pa_cons (pv 0) pa_nil)) (pa_cons pe_int (pa_cons pe_int (pa_cons pe_int (pa_cons pe_int (pa_cons (pv 1) pa_nil))))))))), ?_⟩
  refine ⟨_, rfl, sa, _, rfl, .inl hs, fun l hl => ?_⟩
  have m1 := same_new hl (.lst (ns.map V.int))
  refine ⟨_, rfl, by show 6 ≤ sizeLine; decide, fun a ha => ?_⟩
  have m2 := same_new ha (.lst [.ref l, .int 0, .int 0, .int 1, .int 0, .int b])
  refine q a l _ (m1.trans m2) (none_of_same m1 ha) ⟨0, 0, 1, 0, upd_same, m2 _ _ upd_same, fun z => ?_, by omega⟩
  rw [← z, upd_same] at ha
  cases ha
theorem ok_spend (T : Txt K mg file) : FnOk P w K mg base CX0 1 T.a_law_spend T.fd_law_spend ["pool"] spSpend := by
  refine T.F_law_spend.ok sc_law_spend (fun vs H Q E h => ?_) (fun cdv A outer s H vs Q E hr h => ?_)
  · obtain ⟨a, l, ns, b, rfl, _⟩ := h
    rfl
  obtain ⟨a, l, ns, b, rfl, hp, q⟩ := h
  refine ⟨_, (pss_cons (ps_asg (pe_op op_sub (pe_ix ix_list (pv 0) pe_int (fun _ _ => rfl)) pe_int) (pg_sub (pv 0) pe_int set_list))
    (pss_one (ps_ret (pe_cmpR op_ge (pe_ix ix_list (pv 0) pe_int (fun _ _ => rfl)) pe_int (nomark _))))), ?_⟩
  obtain ⟨p1, p2, p3, p4, e, el, nl, z1⟩ := hp
  refine ⟨_, rfl, a, _, 5, _, rfl, rfl, SqL.of e, atI_nat (j := 5) rfl, _, _, rfl, rfl, _, rfl, a, _, 5, 5, rfl, rfl, e, rfl, ?_⟩
  have e1 : (upd H a (.lst [.ref l, .int p1, .int p2, .int p3, .int p4, .int (b - 1)])) a = _ := upd_same
  refine ⟨_, rfl, a, _, 5, _, rfl, rfl, SqL.of e1, atI_nat (j := 5) rfl, _, _, rfl, rfl, ?_⟩
  refine q _ (fun x o ex n => by rw [upd_ne n]; exact ex) ⟨p1, p2, p3, p4, e1, ?_, nl, z1⟩
  rw [upd_ne nl]
  exact el
theorem ok_numb (T : Txt K mg file) : FnOk P w K mg base CX0 2 T.a_law_number T.fd_law_number ["pool"] spNumb := by
  have G_law_draw : FnOk P w K mg base CX0 1 T.a_law_draw T.fd_law_draw ["pool", "size"] spDraw := ok_draw T
  refine T.F_law_number.ok sc_law_number (fun vs H Q E h => ?_) (fun cdv A outer s H vs Q E hr h => ?_)
  · obtain ⟨a, l, ns, b, rfl, _⟩ := h
    rfl
  obtain ⟨a, l, ns, b, rfl, hp, q⟩ := h
  refine ⟨_, (pss_cons (ps_if (pt_cmpR op_eq (pe_call G_law_draw (hr.mono (by decide)) rfl T.g_law_draw T.k_law_draw T.b_law_draw .nil pass0 (pa_cons (pv 0) (pa_cons pe_int pa_nil))) pe_int (nomark _))
      (pss_one (ps_ret (pe_call G_law_draw (hr.mono (by decide)) rfl T.g_law_draw T.k_law_draw T.b_law_draw .nil pass0 (pa_cons (pv 0) (pa_cons pe_int pa_nil)))))
      pss_nil)
    (pss_one (ps_ret (pe_call G_law_draw (hr.mono (by decide)) rfl T.g_law_draw T.k_law_draw T.b_law_draw .nil pass0 (pa_cons (pv 0) (pa_cons pe_int pa_nil)))))), ?_⟩
  refine ⟨_, rfl, a, l, ns, b, 3, rfl, hp, by decide, by decide, fun r H1 r0 r1 b1 p1 => ⟨rfl, _, rfl, ite2 (fun _ => ?_) (fun _ => ?_)⟩⟩
  · exact ⟨_, rfl, a, l, ns, b, 65536, rfl, p1, by decide, by decide, fun r2 H2 r20 r21 b2 p2 => q r2 H2 r20 (by omega) (b1.trans b2) p2⟩
  · exact ⟨_, rfl, a, l, ns, b, 9, rfl, p1, by decide, by decide, fun r2 H2 r20 r21 b2 p2 => q r2 H2 r20 (by omega) (b1.trans b2) p2⟩
end
end Toy
set_option Elab.async false
set_option linter.all false
set_option maxRecDepth 100000
set_option maxHeartbeats 4000000
namespace Toy
open PySem L2 NdefX Gm Pz
open Mine hiding same_new
def WdB (b : Nat) (w : Str) : Prop := w.length ≤ b ∧ 32 ∉ signs w
def wdB (b : Nat) (w : Str) : Bool := decide (w.length ≤ b) && !(signs w).any (fun c => decide (c = 32))
theorem wdB_ok {b : Nat} {w : Str} (h : wdB b w = true) : WdB b w := by
  unfold wdB at h
  rw [Bool.and_eq_true, Bool.not_eq_true'] at h
  refine ⟨of_decide_eq_true h.1, fun z => ?_⟩
  have := List.any_eq_false.mp h.2 32 z
  simp at this
theorem WdB.mono {b c : Nat} {w : Str} (h : WdB b w) (l : b ≤ c) : WdB c w := ⟨Nat.le_trans h.1 l, h.2⟩
theorem at_mem {xs : List Str} {r : Int} (h0 : 0 ≤ r) (h1 : r < (xs.length : Int)) : ∃ x ∈ xs, atI (xs.map V.str) r = some (.str x) := by
  have hk : r.toNat < xs.length := by omega
  exact ⟨xs[r.toNat], List.getElem_mem _, at_of (j := r.toNat) (by omega) (by rw [List.getElem?_map, List.getElem?_eq_getElem hk] <;> rfl)⟩

theorem big (n : Nat) (h : n ≤ 100000) : n ≤ sizeLine := Nat.le_trans h (by decide)
theorem big' (n : Nat) (h : n ≤ 100000) : n < sizeLine := Nat.lt_of_le_of_lt h (by decide)
theorem But.tup {H H' : Hp} {p : Addr} {xs : List V} (b : But p H H') (h : H p = some (.lst xs)) : Tups H H' := fun c o e k => b c o e fun z => by
  rw [z, h] at e
  cases e
  rcases k with ⟨_, k⟩ | ⟨_, _, k⟩ <;> cases k
theorem trip_nol (r : Row) : nol (trip r) = true := rfl
theorem trips_nol : ∀ rs : List Row, nolAll (rs.map trip) = true
  | [] => rfl
  | r :: rs => by
    show (nol (trip r) && nolAll (rs.map trip)) = true
    rw [trips_nol rs]
    rfl
theorem trip_inv {K : PySem.W.Frag} {H : Hp} {v : V} {r : Row} (h : Dp K H v (trip r)) : ∃ p, v = .ref p ∧ SqT K H p [V.str r.1, V.int r.2.1, V.int r.2.2] := by
  unfold trip at h
  cases h with
  | tup hs ha =>
    cases ha with
    | cons h1 ha =>
      cases h1
      cases ha with
      | cons h1 ha =>
        cases h1
        cases ha with
        | cons h1 ha =>
          cases h1
          cases ha
          exact ⟨_, rfl, hs⟩
/-- one of the rows, drawn -/
theorem at_row {K : PySem.W.Frag} {H : Hp} {xs : List V} {rs : List Row} (h : DpAll K H xs (rs.map trip)) {r : Int} (h0 : 0 ≤ r) (h1 : r < (rs.length : Int)) : ∃ p row, row ∈ rs ∧ atI xs r = some (.ref p) ∧ SqT K H p [V.str row.1, V.int row.2.1, V.int row.2.2] := by
  obtain ⟨n, rfl⟩ : ∃ n : Nat, r = (n : Int) := ⟨r.toNat, by omega⟩
  have hn : n < rs.length := by omega
  obtain ⟨v, ev, dv⟩ := DpAll.get h (show (rs.map trip)[n]? = some (trip rs[n]) by rw [List.getElem?_map, List.getElem?_eq_getElem hn]; rfl)
  obtain ⟨p, rfl, hp⟩ := trip_inv dv
  exact ⟨p, rs[n], List.getElem_mem hn, atI_nat ev, hp⟩
/-- what a game is drawn with: the names so far -/
structure ScG (K : PySem.W.Frag) (H : Hp) (sc v t o lc : Addr) (vars tabs lots : List Row) (locs : List Str) (w : Int) : Prop where
  d : H sc = some (.dK [(.inr "variables", .ref v), (.inr "tables", .ref t), (.inr "lots", .ref o), (.inr "locals", .ref lc), (.inr "ways", .int w)])
  v : ∃ xs, H v = some (.lst xs) ∧ DpAll K H xs (vars.map trip)
  t : ∃ xs, H t = some (.lst xs) ∧ DpAll K H xs (tabs.map trip)
  o : ∃ xs, H o = some (.lst xs) ∧ DpAll K H xs (lots.map trip)
  l : H lc = some (.lst (locs.map V.str))
def scOf (vars tabs lots : List Row) (locs : List Str) : Sc := ⟨locs, vars.map (·.1), tabs.map (·.1), lots.map (·.1), []⟩
structure NeP (a sc v t o lc : Addr) : Prop where
  sc : sc ≠ a
  v : v ≠ a
  t : t ≠ a
  o : o ≠ a
  lc : lc ≠ a
structure Lens (vars tabs lots : List Row) (locs : List Str) (w : Int) : Prop where
  v : vars.length ≤ 100
  t : tabs.length ≤ 100
  o : lots.length ≤ 100
  l0 : 0 < locs.length
  l : locs.length ≤ 100
  w0 : 1 ≤ w
  w1 : w ≤ 1000000
  o1 : ∀ r ∈ lots, 1 ≤ r.2.2 ∧ r.2.2 ≤ 64
theorem dps_tups {K : PySem.W.Frag} {H H' : Hp} {xs : List V} {rs : List Row} (s : Tups H H') (h : DpAll K H xs (rs.map trip)) : DpAll K H' xs (rs.map trip) := dp_tupsAll s _ _ (trips_nol rs) h
theorem ScG.but {K : PySem.W.Frag} {H H' : Hp} {a sc v t o lc : Addr} {vars tabs lots : List Row} {locs : List Str} {w : Int} {zs : List V} (h : ScG K H sc v t o lc vars tabs lots locs w) (b : But a H H') (e : H a = some (.lst zs)) (n : NeP a sc v t o lc) : ScG K H' sc v t o lc vars tabs lots locs w := by
  obtain ⟨xs, x1, x2⟩ := h.v
  obtain ⟨ys, y1, y2⟩ := h.t
  obtain ⟨us, u1, u2⟩ := h.o
  have tp := But.tup b e
  exact ⟨b _ _ h.d n.sc, ⟨xs, b _ _ x1 n.v, dps_tups tp x2⟩, ⟨ys, b _ _ y1 n.t, dps_tups tp y2⟩, ⟨us, b _ _ u1 n.o, dps_tups tp u2⟩, b _ _ h.l n.lc⟩
/-- the pool and the names -/
structure GA (K : PySem.W.Frag) (H : Hp) (a l : Addr) (ns : List Int) (b : Int) (sc v t o lc : Addr) (vars tabs lots : List Row) (locs : List Str) (w : Int) : Prop where
  p : PoolB H a l ns b
  s : ScG K H sc v t o lc vars tabs lots locs w
  n : NeP a sc v t o lc
  z : Lens vars tabs lots locs w
section
variable {K : PySem.W.Frag} {H H' : Hp} {a l : Addr} {ns : List Int} {b b' : Int} {sc v t o lc : Addr} {vars tabs lots : List Row} {locs : List Str} {w : Int}
theorem PoolB.lst (h : PoolB H a l ns b) : ∃ zs, H a = some (.lst zs) := let ⟨_, _, _, _, e, _⟩ := h; ⟨_, e⟩
theorem GA.but (h : GA K H a l ns b sc v t o lc vars tabs lots locs w) (bt : But a H H') (p : PoolB H' a l ns b') : GA K H' a l ns b' sc v t o lc vars tabs lots locs w := by
  obtain ⟨zs, e⟩ := h.p.lst
  exact ⟨p, h.s.but bt e h.n, h.n, h.z⟩
theorem GA.same (h : GA K H a l ns b sc v t o lc vars tabs lots locs w) (s : Same H H') : GA K H' a l ns b sc v t o lc vars tabs lots locs w := h.but (But.same s) (h.p.same s)
theorem GA.tup (h : GA K H a l ns b sc v t o lc vars tabs lots locs w) (bt : But a H H') : Tups H H' := by
  obtain ⟨zs, e⟩ := h.p.lst
  exact But.tup bt e
end
def spLEx (K : PySem.W.Frag) (k : Nat) : Sp := fun vs H Q _ => ∃ (a l : Addr) (ns : List Int) (b : Int) (sc v t o lc : Addr) (vars tabs lots : List Row) (locs : List Str) (w : Int), vs = [.ref a, .ref sc, .int (k : Int)] ∧ GA K H a l ns b sc v t o lc vars tabs lots locs w ∧
  ∀ (y : V) (e : Ex) (H' : Hp), But a H H' → PoolB H' a l ns b → Dp K H' y e.d → e.Ok (scOf vars tabs lots locs) (k + 1) → Q y H'
section
variable {P : Program} {w : World} {K : PySem.W.Frag} {mg : Str → Option Value} {base : Heap} {file : Str}
theorem ok_lex_step (T : Txt K mg file) (k : Nat) (sp0 : Sp) (G_law_expression : FnOk P w K mg base CX0 (k + 2) T.a_law_expression T.fd_law_expression ["pool", "scope", "deep"] sp0) (hsp : ∀ j, k = j + 1 → ∀ vs H Q E, spLEx K j vs H Q E → sp0 vs H Q E) :
    FnOk P w K mg base CX0 (k + 3) T.a_law_expression T.fd_law_expression ["pool", "scope", "deep"] (spLEx K k) := by
  have G_law_draw : FnOk P w K mg base CX0 1 T.a_law_draw T.fd_law_draw ["pool", "size"] spDraw := ok_draw T
  have G_law_number : FnOk P w K mg base CX0 2 T.a_law_number T.fd_law_number ["pool"] spNumb := ok_numb T
  refine T.F_law_expression.ok sc_law_expression (fun vs H Q E h => ?_) (fun cdv A outer s H vs Q E hr h => ?_)
  · obtain ⟨a, l, ns, b, sc, v, t, o, lc, vars, tabs, lots, locs, w, rfl, _⟩ := h
    rfl
  obtain ⟨a, l, ns, b, sc, v, t, o, lc, vars, tabs, lots, locs, w, rfl, G0, q⟩ := h
  refine ⟨_, (pss_cons (ps_set (i := 3) sc_law_expression.nd rfl (Or.inl rfl) (pe_call G_law_draw (hr.mono (by omega)) rfl T.g_law_draw T.k_law_draw T.b_law_draw .nil pass0 (pa_cons (pv 0) (pa_cons pe_int pa_nil))))
    (pss_cons (ps_if (PW.pt (pw_and (pt_cmpR op_lt (pv 3) pe_int (nomark _)) (pw_and1 (pt_cmpR op_gt (pv 2) pe_int (nomark _)))))
      (pss_cons (ps_set (i := 4) sc_law_expression.nd rfl (Or.inl rfl) (pe_ix ix_tup (pe_tup (pa_cons pe_str (pa_cons pe_str (pa_cons pe_str (pa_cons pe_str (pa_cons pe_str (pa_cons pe_str (pa_cons pe_str pa_nil)))))))) (pe_call G_law_draw (hr.mono (by omega)) rfl T.g_law_draw T.k_law_draw T.b_law_draw .nil pass0 (pa_cons (pv 0) (pa_cons pe_int pa_nil))) (fun _ _ => rfl)))
    (pss_cons (ps_set (i := 5) sc_law_expression.nd rfl (Or.inl rfl) (pe_call G_law_expression (hr.mono (by omega)) rfl T.g_law_expression T.k_law_expression T.b_law_expression .nil pass0 (pa_cons (pv 0) (pa_cons (pv 1) (pa_cons (pe_op op_sub (pv 2) pe_int) pa_nil)))))
    (pss_one (ps_ret (pe_tup (pa_cons (pv 4) (pa_cons (pv 5) (pa_cons (pe_call G_law_expression (hr.mono (by omega)) rfl T.g_law_expression T.k_law_expression T.b_law_expression .nil pass0 (pa_cons (pv 0) (pa_cons (pv 1) (pa_cons (pe_op op_sub (pv 2) pe_int) pa_nil)))) pa_nil))))))))
      pss_nil)
    (pss_cons (ps_if (PW.pt (pw_and (pt_cmpR op_lt (pv 3) pe_int (nomark _)) (pw_and (pt_cmpR op_gt (pv 2) pe_int (nomark _)) (pw_and1 (pt_cmpR op_gt (pe_callB call_len_seq (by rfl) T.z_len (by decide +kernel) (pa_cons (pe_dget (hu_of hr) (pv 1) pe_str (fun _ _ => rfl)) pa_nil)) pe_int (nomark _))))))
      (pss_cons (ps_set (i := 6) sc_law_expression.nd rfl (Or.inl rfl) (pe_ix ix_tup (pe_ix ix_list (pe_dget (hu_of hr) (pv 1) pe_str (fun _ _ => rfl)) (pe_call G_law_draw (hr.mono (by omega)) rfl T.g_law_draw T.k_law_draw T.b_law_draw .nil pass0 (pa_cons (pv 0) (pa_cons (pe_callB call_len_seq (by rfl) T.z_len (by decide +kernel) (pa_cons (pe_dget (hu_of hr) (pv 1) pe_str (fun _ _ => rfl)) pa_nil)) pa_nil))) (fun _ _ => rfl)) pe_int (fun _ _ => rfl)))
    (pss_one (ps_ret (pe_tup (pa_cons (pe_ix ix_tup (pe_tup (pa_cons pe_str (pa_cons pe_str pa_nil))) (pe_call G_law_draw (hr.mono (by omega)) rfl T.g_law_draw T.k_law_draw T.b_law_draw .nil pass0 (pa_cons (pv 0) (pa_cons pe_int pa_nil))) (fun _ _ => rfl)) (pa_cons (pv 6) (pa_cons (pe_call G_law_expression (hr.mono (by omega)) rfl T.g_law_expression T.k_law_expression T.b_law_expression .nil pass0 (pa_cons (pv 0) (pa_cons (pv 1) (pa_cons (pe_op op_sub (pv 2) pe_int) pa_nil)))) pa_nil)))))))
      pss_nil)
    (pss_cons (ps_if (PW.pt (pw_and (pt_cmpR op_lt (pv 3) pe_int (nomark _)) (pw_and1 (pt_cmpR op_gt (pe_callB call_len_seq (by rfl) T.z_len (by decide +kernel) (pa_cons (pe_dget (hu_of hr) (pv 1) pe_str (fun _ _ => rfl)) pa_nil)) pe_int (nomark _)))))
      (pss_one (ps_ret (pe_tup (pa_cons pe_str (pa_cons (pe_ix ix_tup (pe_ix ix_list (pe_dget (hu_of hr) (pv 1) pe_str (fun _ _ => rfl)) (pe_call G_law_draw (hr.mono (by omega)) rfl T.g_law_draw T.k_law_draw T.b_law_draw .nil pass0 (pa_cons (pv 0) (pa_cons (pe_callB call_len_seq (by rfl) T.z_len (by decide +kernel) (pa_cons (pe_dget (hu_of hr) (pv 1) pe_str (fun _ _ => rfl)) pa_nil)) pa_nil))) (fun _ _ => rfl)) pe_int (fun _ _ => rfl)) pa_nil)))))
      pss_nil)
    (pss_cons (ps_if (pt_cmpR op_lt (pv 3) pe_int (nomark _))
      (pss_one (ps_ret (pe_tup (pa_cons pe_str (pa_cons (pe_ix ix_list (pe_dget (hu_of hr) (pv 1) pe_str (fun _ _ => rfl)) (pe_call G_law_draw (hr.mono (by omega)) rfl T.g_law_draw T.k_law_draw T.b_law_draw .nil pass0 (pa_cons (pv 0) (pa_cons (pe_callB call_len_seq (by rfl) T.z_len (by decide +kernel) (pa_cons (pe_dget (hu_of hr) (pv 1) pe_str (fun _ _ => rfl)) pa_nil)) pa_nil))) (fun _ _ => rfl)) pa_nil)))))
      pss_nil)
    (pss_one (ps_ret (pe_tup (pa_cons pe_str (pa_cons (pe_ix ix_tup (pe_tup (pa_cons (pe_call G_law_draw (hr.mono (by omega)) rfl T.g_law_draw T.k_law_draw T.b_law_draw .nil pass0 (pa_cons (pv 0) (pa_cons pe_int pa_nil))) (pa_cons (pe_call G_law_draw (hr.mono (by omega)) rfl T.g_law_draw T.k_law_draw T.b_law_draw .nil pass0 (pa_cons (pv 0) (pa_cons pe_int pa_nil))) (pa_cons (pe_call G_law_number (hr.mono (by omega)) rfl T.g_law_number T.k_law_number T.b_law_number .nil pass0 (pa_cons (pv 0) pa_nil)) pa_nil)))) (pe_call G_law_draw (hr.mono (by omega)) rfl T.g_law_draw T.k_law_draw T.b_law_draw .nil pass0 (pa_cons (pv 0) (pa_cons pe_int pa_nil))) (fun _ _ => rfl)) pa_nil)))))))))), ?_⟩
  refine ⟨_, rfl, a, l, ns, b, 12, rfl, G0.p, by decide, by decide, fun kd H1 r0 r1 b1 p1 => ?_⟩
  have G1 := G0.but b1 p1
  unfold gName
  dsimp only
  refine seq_k (fun σ H' => σ = [some (.ref a), some (.ref sc), some (.int (k : Int)), some (.int kd), none, none, none] ∧ H' = H1) ?_ (fun k1 => ?_)
  rotate_left
  · refine ⟨_, rfl, _, _, rfl, rfl, _, rfl, ite2 (fun z1 => ?_) (fun _ => iteF (k1 _ _ ⟨rfl, rfl⟩))⟩
    refine ⟨_, rfl, _, _, rfl, rfl, _, rfl, ite2 (fun z2 => ?_) (fun _ => k1 _ _ ⟨rfl, rfl⟩)⟩
    have z2 := of_decide_eq_true z2
    obtain ⟨j, rfl⟩ : ∃ j, k = j + 1 := ⟨k - 1, by omega⟩
    have ej : V.int (((j + 1 : Nat) : Int) - 1) = V.int (j : Nat) := by congr 1; omega
    refine ⟨big 7 (by decide), fun t1 ht1 => ?_⟩
    have m1 := same_new ht1 (.tup (ops.map V.str))
    have q1 := G1.p.ne ht1
    refine ⟨_, rfl, a, l, ns, b, 7, rfl, p1.same m1, by decide, by decide, fun r2 H2 r20 r21 b2 p2 => ?_⟩
    obtain ⟨sg, hsg, esg⟩ := at_mem (xs := ops) r20 r21
    have G2 := (G1.same m1).but b2 p2
    have b02 := b1.trans ((But.same m1).trans b2)
    refine ⟨t1, _, _, _, rfl, rfl, SqT.of (b2 _ _ upd_same q1.1), esg, ?_⟩
    refine ⟨_, rfl, _, rfl, _, rfl, _, _, rfl, rfl, hsp j rfl _ _ _ _ ⟨a, l, ns, b, sc, v, t, o, lc, vars, tabs, lots, locs, w, by rw [← ej]; rfl, G2, fun y1 e1 H3 b3 p3 d3 o3 => ?_⟩⟩
    have G3 := G2.but b3 p3
    refine ⟨_, rfl, _, rfl, _, rfl, _, rfl, _, rfl, _, _, rfl, rfl, hsp j rfl _ _ _ _ ⟨a, l, ns, b, sc, v, t, o, lc, vars, tabs, lots, locs, w, by rw [← ej]; rfl, G3, fun y2 e2 H4 b4 p4 d4 o4 => ?_⟩⟩
    refine ⟨big 3 (by decide), fun r hr => ?_⟩
    have m5 := same_new hr (.tup [V.str sg, y1, y2])
    exact q _ (.op sg e1 e2) _ (b02.trans (b3.trans (b4.trans (But.same m5)))) (p4.same m5) (dp_tup hr (.cons (.str _) (.cons (dp_tups (G3.tup b4) _ _ (Ex.nol e1) d3) (.cons d4 .nil)))) ⟨hsg, o3, o4⟩
  rintro σ H' ⟨rfl, rfl⟩
  -- a table
  refine seq_k (fun σ H'' => σ = [some (.ref a), some (.ref sc), some (.int (k : Int)), some (.int kd), none, none, none] ∧ H'' = H') ?_ (fun k2 => ?_)
  rotate_left
  · refine ⟨_, rfl, _, _, rfl, rfl, _, rfl, ite2 (fun z1 => ?_) (fun _ => iteF (k2 _ _ ⟨rfl, rfl⟩))⟩
    refine ⟨_, rfl, _, _, rfl, rfl, _, rfl, ite2 (fun z2 => ?_) (fun _ => iteF (k2 _ _ ⟨rfl, rfl⟩))⟩
    have z2 := of_decide_eq_true z2
    obtain ⟨j, rfl⟩ : ∃ j, k = j + 1 := ⟨k - 1, by omega⟩
    have ej : V.int (((j + 1 : Nat) : Int) - 1) = V.int (j : Nat) := by congr 1; omega
    obtain ⟨xs, ex, dx⟩ := G1.s.t
    have lx : xs.length = tabs.length := by rw [DpAll.len dx, List.length_map]
    refine ⟨_, rfl, sc, _, rfl, DGet.k (k := .inr "tables") G1.s.d, t, xs, rfl, .inl (SqL.of ex), _, _, rfl, rfl, _, rfl, ite2 (fun z3 => ?_) (fun _ => k2 _ _ ⟨rfl, rfl⟩)⟩
    have z3 := of_decide_eq_true z3
    refine ⟨_, rfl, sc, _, rfl, DGet.k (k := .inr "tables") G1.s.d, _, rfl, _, rfl, sc, _, rfl, DGet.k (k := .inr "tables") G1.s.d, t, xs, rfl, .inl (SqL.of ex), a, l, ns, b, _, rfl, p1, by omega, by have := G1.z.t; omega, fun r2 H2 r20 r21 b2 p2 => ?_⟩
    have G2 := G1.but b2 p2
    obtain ⟨p, row, hrow, ep, sp⟩ := at_row (dps_tups (G1.tup b2) dx) r20 (by omega)
    refine ⟨t, xs, _, _, rfl, rfl, SqL.of (b2 _ _ ex G1.n.t), ep, p, _, 0, _, rfl, rfl, sp, atI_nat (j := 0) rfl, ?_⟩
    refine ⟨big 2 (by decide), fun t1 ht1 => ?_⟩
    have m1 := same_new ht1 (.tup ((["has", "cell"] : List Str).map V.str))
    have q1 := G2.p.ne ht1
    refine ⟨_, rfl, a, l, ns, b, 2, rfl, p2.same m1, by decide, by decide, fun r3 H3 r30 r31 b3 p3 => ?_⟩
    obtain ⟨sg, hsg, esg⟩ := at_mem (xs := (["has", "cell"] : List Str)) r30 r31
    have G3 := (G2.same m1).but b3 p3
    have b03 := b1.trans (b2.trans ((But.same m1).trans b3))
    refine ⟨t1, _, _, _, rfl, rfl, SqT.of (b3 _ _ upd_same q1.1), esg, _, rfl, _, rfl, _, rfl, _, rfl, _, _, rfl, rfl, hsp j rfl _ _ _ _ ⟨a, l, ns, b, sc, v, t, o, lc, vars, tabs, lots, locs, w, by rw [← ej]; rfl, G3, fun y1 e1 H4 b4 p4 d4 o4 => ?_⟩⟩
    refine ⟨big 3 (by decide), fun r hr => ?_⟩
    have m5 := same_new hr (.tup [V.str sg, V.str row.1, y1])
    have bb := b03.trans (b4.trans (But.same m5))
    have ht : row.1 ∈ tabs.map (·.1) := List.mem_map.mpr ⟨row, hrow, rfl⟩
    rcases List.mem_cons.mp hsg with e | hsg
    · subst e
      exact q _ (.has row.1 e1) _ bb (p4.same m5) (dp_tup hr (.cons (.str _) (.cons (.str _) (.cons d4 .nil)))) ⟨ht, o4⟩
    · have e := List.mem_singleton.mp hsg
      subst e
      exact q _ (.cell row.1 e1) _ bb (p4.same m5) (dp_tup hr (.cons (.str _) (.cons (.str _) (.cons d4 .nil)))) ⟨ht, o4⟩
  rintro σ H'' ⟨rfl, rfl⟩
  -- a variable
  refine seq_k (fun σ H' => σ = [some (.ref a), some (.ref sc), some (.int (k : Int)), some (.int kd), none, none, none] ∧ H' = H'') ?_ (fun k3 => ?_)
  rotate_left
  · refine ⟨_, rfl, _, _, rfl, rfl, _, rfl, ite2 (fun z1 => ?_) (fun _ => iteF (k3 _ _ ⟨rfl, rfl⟩))⟩
    obtain ⟨xs, ex, dx⟩ := G1.s.v
    have lx : xs.length = vars.length := by rw [DpAll.len dx, List.length_map]
    refine ⟨_, rfl, sc, _, rfl, DGet.k (k := .inr "variables") G1.s.d, v, xs, rfl, .inl (SqL.of ex), _, _, rfl, rfl, _, rfl, ite2 (fun z3 => ?_) (fun _ => k3 _ _ ⟨rfl, rfl⟩)⟩
    have z3 := of_decide_eq_true z3
    refine ⟨_, rfl, sc, _, rfl, DGet.k (k := .inr "variables") G1.s.d, _, rfl, _, rfl, sc, _, rfl, DGet.k (k := .inr "variables") G1.s.d, v, xs, rfl, .inl (SqL.of ex), a, l, ns, b, _, rfl, p1, by omega, by have := G1.z.v; omega, fun r2 H2 r20 r21 b2 p2 => ?_⟩
    obtain ⟨p, row, hrow, ep, sp⟩ := at_row (dps_tups (G1.tup b2) dx) r20 (by omega)
    refine ⟨v, xs, _, _, rfl, rfl, SqL.of (b2 _ _ ex G1.n.v), ep, p, _, 0, _, rfl, rfl, sp, atI_nat (j := 0) rfl, ?_⟩
    refine ⟨big 2 (by decide), fun r hr => ?_⟩
    have m5 := same_new hr (.tup [V.str "variable", V.str row.1])
    exact q _ (.var row.1) _ (b1.trans (b2.trans (But.same m5))) (p2.same m5) (dp_tup hr (.cons (.str _) (.cons (.str _) .nil))) (List.mem_map.mpr ⟨row, hrow, rfl⟩)
  rintro σ H' ⟨rfl, rfl⟩
  -- a local
  refine seq_k (fun σ H'' => σ = [some (.ref a), some (.ref sc), some (.int (k : Int)), some (.int kd), none, none, none] ∧ H'' = H') ?_ (fun k4 => ?_)
  rotate_left
  · refine ⟨_, rfl, _, _, rfl, rfl, _, rfl, ite2 (fun z1 => ?_) (fun _ => k4 _ _ ⟨rfl, rfl⟩)⟩
    have ll : ((locs.map V.str).length : Int) = (locs.length : Int) := by rw [List.length_map]
    refine ⟨_, rfl, sc, _, rfl, DGet.k (k := .inr "locals") G1.s.d, _, rfl, _, rfl, sc, _, rfl, DGet.k (k := .inr "locals") G1.s.d, lc, _, rfl, .inl (SqL.of G1.s.l), a, l, ns, b, _, rfl, p1, by have := G1.z.l0; omega, by have := G1.z.l; omega, fun r2 H2 r20 r21 b2 p2 => ?_⟩
    obtain ⟨x, hx, ex⟩ := at_mem (xs := locs) r20 (by omega)
    refine ⟨lc, _, _, _, rfl, rfl, SqL.of (b2 _ _ G1.s.l G1.n.lc), ex, big 2 (by decide), fun r hr => ?_⟩
    have m5 := same_new hr (.tup [V.str "local", V.str x])
    exact q _ (.loc x) _ (b1.trans (b2.trans (But.same m5))) (p2.same m5) (dp_tup hr (.cons (.str _) (.cons (.str _) .nil))) hx
  rintro σ H'' ⟨rfl, rfl⟩
  -- a number
  refine ⟨_, rfl, a, l, ns, b, 4, rfl, p1, by decide, by decide, fun n1 H2 n10 n11 b2 p2 => ?_⟩
  refine ⟨_, rfl, a, l, ns, b, 70, rfl, p2, by decide, by decide, fun n2 H3 n20 n21 b3 p3 => ?_⟩
  refine ⟨_, rfl, a, l, ns, b, rfl, p3, fun n3 H4 n30 n31 b4 p4 => ?_⟩
  refine ⟨big 3 (by decide), fun t1 ht1 => ?_⟩
  have m1 := same_new ht1 (.tup [V.int n1, V.int n2, V.int n3])
  have q1 := p4.ne ht1
  refine ⟨_, rfl, a, l, ns, b, 3, rfl, p4.same m1, by decide, by decide, fun r5 H5 r50 r51 b5 p5 => ?_⟩
  obtain ⟨n, en, n0, n1'⟩ : ∃ n : Int, atI [V.int n1, V.int n2, V.int n3] r5 = some (.int n) ∧ 0 ≤ n ∧ n ≤ 65535 := by
    obtain ⟨m, rfl⟩ : ∃ m : Nat, r5 = (m : Int) := ⟨r5.toNat, by omega⟩
    match m, r51 with
    | 0, _ => exact ⟨n1, atI_nat (j := 0) rfl, n10, by omega⟩
    | 1, _ => exact ⟨n2, atI_nat (j := 1) rfl, n20, by omega⟩
    | 2, _ => exact ⟨n3, atI_nat (j := 2) rfl, n30, n31⟩
  refine ⟨t1, _, _, _, rfl, rfl, SqT.of (b5 _ _ upd_same q1.1), en, big 2 (by decide), fun r hr => ?_⟩
  have m6 := same_new hr (.tup [V.str "number", V.int n])
  exact q _ (.num n) _ (b1.trans (b2.trans (b3.trans (b4.trans ((But.same m1).trans (b5.trans (But.same m6))))))) (p5.same m6) (dp_tup hr (.cons (.str _) (.cons (.int _) .nil))) ⟨n0, n1'⟩
theorem ok_lex (T : Txt K mg file) : ∀ k : Nat, FnOk P w K mg base CX0 (k + 3) T.a_law_expression T.fd_law_expression ["pool", "scope", "deep"] (spLEx K k)
  | 0 => ok_lex_step T 0 (fun _ _ _ _ => False) ⟨fun _ _ _ _ h => h.elim, fun _ _ _ _ _ _ _ _ _ _ _ _ _ h => h.elim⟩ (fun j h => absurd h (by omega))
  | k + 1 => ok_lex_step T (k + 1) _ (ok_lex T k) (fun j h vs H Q E q => by
      obtain rfl : k = j := by omega
      exact q)
end
end Toy
set_option Elab.async false
set_option linter.all false
set_option maxRecDepth 100000
set_option maxHeartbeats 4000000
namespace Toy
open PySem L2 NdefX Gm Pz
open Mine hiding same_new
mutual
/-- statements, inner ones included -/
def sCnt : Stm → Nat
  | .set _ _ => 1
  | .lt _ _ => 1
  | .draw _ _ => 1
  | .put _ _ _ => 1
  | .lot _ _ _ => 1
  | .ask _ _ _ => 1
  | .ite _ a b => 1 + (bCnt a + bCnt b)
  | .bad => 1
  | .after a => 1 + bCnt a
def bCnt : Blk → Nat
  | .nil => 0
  | .cons x r => sCnt x + bCnt r
end
theorem But.two {a sc : Addr} {H H' : Hp} (b : But a H H') : But2 a sc H H' := fun x o e n _ => b x o e n
theorem But2.trans {a sc : Addr} {H H1 H2 : Hp} (x : But2 a sc H H1) (y : But2 a sc H1 H2) : But2 a sc H H2 := fun c o e n m => y c o (x c o e n m) n m
theorem But2.tups {a sc : Addr} {H H' : Hp} {xs : List V} {kvs : List (Key × V)} (b : But2 a sc H H') (h : H a = some (.lst xs)) (h2 : H sc = some (.dK kvs)) : Tups H H' := fun c o e k => b c o e
  (fun z => by
    rw [z, h] at e
    cases e
    rcases k with ⟨_, k⟩ | ⟨_, _, k⟩ <;> cases k)
  (fun z => by
    rw [z, h2] at e
    cases e
    rcases k with ⟨_, k⟩ | ⟨_, _, k⟩ <;> cases k)
section
variable {K : PySem.W.Frag} {H H' : Hp} {a l : Addr} {ns : List Int} {b b' : Int} {sc v t o lc : Addr} {vars tabs lots : List Row} {locs : List Str} {w w' : Int}
theorem GA.tup2 (h : GA K H a l ns b sc v t o lc vars tabs lots locs w) (bt : But2 a sc H H') : Tups H H' := by
  obtain ⟨zs, e⟩ := h.p.lst
  exact bt.tups e h.s.d
/-- another number of ways -/
theorem GA.ways (h : GA K H a l ns b sc v t o lc vars tabs lots locs w) (h0 : 1 ≤ w') (h1 : w' ≤ 1000000) :
    But2 a sc H (upd H sc (.dK (putK [(.inr "variables", .ref v), (.inr "tables", .ref t), (.inr "lots", .ref o), (.inr "locals", .ref lc), (.inr "ways", .int w)] (.inr "ways") (.int w')))) ∧
      GA K (upd H sc (.dK (putK [(.inr "variables", .ref v), (.inr "tables", .ref t), (.inr "lots", .ref o), (.inr "locals", .ref lc), (.inr "ways", .int w)] (.inr "ways") (.int w')))) a l ns b sc v t o lc vars tabs lots locs w' := by
  have e : putK [((.inr "variables" : Key), V.ref v), (.inr "tables", .ref t), (.inr "lots", .ref o), (.inr "locals", .ref lc), (.inr "ways", .int w)] (.inr "ways") (.int w') = [(.inr "variables", .ref v), (.inr "tables", .ref t), (.inr "lots", .ref o), (.inr "locals", .ref lc), (.inr "ways", .int w')] := by rfl
  rw [e]
  have tp : Tups H (upd H sc (.dK [(.inr "variables", .ref v), (.inr "tables", .ref t), (.inr "lots", .ref o), (.inr "locals", .ref lc), (.inr "ways", .int w')])) := Tups.dK h.s.d
  have ne : ∀ {x : Addr} {xs : List V}, H x = some (.lst xs) → x ≠ sc := fun {x xs} ex z => by rw [z, h.s.d] at ex; cases ex
  obtain ⟨xs, x1, x2⟩ := h.s.v
  obtain ⟨ys, y1, y2⟩ := h.s.t
  obtain ⟨us, u1, u2⟩ := h.s.o
  obtain ⟨p1, p2, p3, p4, e1, e2, e3, e4⟩ := id h.p
  refine ⟨fun x u ex _ n => by rw [upd_ne n]; exact ex, ⟨h.p.upd ⟨h.n.sc, fun z => ?_⟩, ⟨upd_same, ⟨xs, ?_, dps_tups tp x2⟩, ⟨ys, ?_, dps_tups tp y2⟩, ⟨us, ?_, dps_tups tp u2⟩, ?_⟩, h.n, { h.z with w0 := h0, w1 := h1 }⟩⟩
  · exact ne e2 z.symm
  · rw [upd_ne (ne x1)]; exact x1
  · rw [upd_ne (ne y1)]; exact y1
  · rw [upd_ne (ne u1)]; exact u1
  · rw [upd_ne (ne h.s.l)]; exact h.s.l
end
def spLSt (K : PySem.W.Frag) (r : Nat) : Sp := fun vs H Q _ => ∃ (a l : Addr) (ns : List Int) (b : Int) (sc v t o lc : Addr) (vars tabs lots : List Row) (locs : List Str) (w : Int), vs = [.ref a, .ref sc, .int (r : Int)] ∧ GA K H a l ns b sc v t o lc vars tabs lots locs w ∧
  ∀ (y : V) (x : Stm) (H' : Hp) (b' w' : Int), But2 a sc H H' → GA K H' a l ns b' sc v t o lc vars tabs lots locs w' → Dp K H' y x.d → x.Ok (scOf vars tabs lots locs) 3 r → sCnt x + b'.toNat ≤ b.toNat + 1 → Q y H'
def spLBl (K : PySem.W.Frag) (r : Nat) : Sp := fun vs H Q _ => ∃ (a l : Addr) (ns : List Int) (b : Int) (sc v t o lc : Addr) (vars tabs lots : List Row) (locs : List Str) (w m : Int), vs = [.ref a, .ref sc, .int (r : Int), .int m] ∧ 0 ≤ m ∧ m ≤ 100 ∧ GA K H a l ns b sc v t o lc vars tabs lots locs w ∧
  ∀ (y : V) (x : Blk) (H' : Hp) (b' w' : Int), But2 a sc H H' → GA K H' a l ns b' sc v t o lc vars tabs lots locs w' → Dp K H' y x.d → x.Ok (scOf vars tabs lots locs) 3 r → bCnt x + b'.toNat ≤ b.toNat → x.len ≤ m.toNat → Q y H'
section
variable {P : Program} {w : World} {K : PySem.W.Frag} {mg : Str → Option Value} {base : Heap} {file : Str}
theorem ok_lst_step (T : Txt K mg file) (k : Nat) (sp0 : Sp) (G_law_block : FnOk P w K mg base CX0 (2 * k + 5) T.a_law_block T.fd_law_block ["pool", "scope", "room", "most"] sp0) (hsp : ∀ j, k = j + 1 → ∀ vs H Q E, spLBl K j vs H Q E → sp0 vs H Q E) :
    FnOk P w K mg base CX0 (2 * k + 6) T.a_law_statement T.fd_law_statement ["pool", "scope", "room"] (spLSt K k) := by
  have G_law_draw : FnOk P w K mg base CX0 1 T.a_law_draw T.fd_law_draw ["pool", "size"] spDraw := ok_draw T
  have G_law_expression : FnOk P w K mg base CX0 5 T.a_law_expression T.fd_law_expression ["pool", "scope", "deep"] (spLEx K 2) := ok_lex T 2
  refine T.F_law_statement.ok sc_law_statement (fun vs H Q E h => ?_) (fun cdv A outer s H vs Q E hr h => ?_)
  · obtain ⟨a, l, ns, b, sc, v, t, o, lc, vars, tabs, lots, locs, w, rfl, _⟩ := h
    rfl
  obtain ⟨a, l, ns, b, sc, v, t, o, lc, vars, tabs, lots, locs, w, rfl, G0, q⟩ := h
  refine ⟨_, (pss_cons (ps_set (i := 3) sc_law_statement.nd rfl (Or.inl rfl) (pe_call G_law_draw (hr.mono (by omega)) rfl T.g_law_draw T.k_law_draw T.b_law_draw .nil pass0 (pa_cons (pv 0) (pa_cons pe_int pa_nil))))
    (pss_cons (ps_set (i := 4) sc_law_statement.nd rfl (Or.inl rfl) (pe_ix ix_list (pe_dget (hu_of hr) (pv 1) pe_str (fun _ _ => rfl)) (pe_call G_law_draw (hr.mono (by omega)) rfl T.g_law_draw T.k_law_draw T.b_law_draw .nil pass0 (pa_cons (pv 0) (pa_cons (pe_callB call_len_seq (by rfl) T.z_len (by decide +kernel) (pa_cons (pe_dget (hu_of hr) (pv 1) pe_str (fun _ _ => rfl)) pa_nil)) pa_nil))) (fun _ _ => rfl)))
    (pss_cons (ps_set (i := 5) sc_law_statement.nd rfl (Or.inl rfl) (pe_call G_law_expression (hr.mono (by omega)) rfl T.g_law_expression T.k_law_expression T.b_law_expression .nil pass0 (pa_cons (pv 0) (pa_cons (pv 1) (pa_cons pe_int pa_nil)))))
    (pss_cons (ps_if (PW.pt (pw_and (pt_cmpR op_lt (pv 3) pe_int (nomark _)) (pw_and1 (pt_cmpR op_gt (pe_callB call_len_seq (by rfl) T.z_len (by decide +kernel) (pa_cons (pe_dget (hu_of hr) (pv 1) pe_str (fun _ _ => rfl)) pa_nil)) pe_int (nomark _)))))
      (pss_one (ps_ret (pe_tup (pa_cons pe_str (pa_cons (pe_ix ix_tup (pe_ix ix_list (pe_dget (hu_of hr) (pv 1) pe_str (fun _ _ => rfl)) (pe_call G_law_draw (hr.mono (by omega)) rfl T.g_law_draw T.k_law_draw T.b_law_draw .nil pass0 (pa_cons (pv 0) (pa_cons (pe_callB call_len_seq (by rfl) T.z_len (by decide +kernel) (pa_cons (pe_dget (hu_of hr) (pv 1) pe_str (fun _ _ => rfl)) pa_nil)) pa_nil))) (fun _ _ => rfl)) pe_int (fun _ _ => rfl)) (pa_cons (pv 5) pa_nil))))))
      pss_nil)
    (pss_cons (ps_if (PW.pt (pw_and (pt_cmpR op_lt (pv 3) pe_int (nomark _)) (pw_and1 (pt_cmpR op_gt (pe_callB call_len_seq (by rfl) T.z_len (by decide +kernel) (pa_cons (pe_dget (hu_of hr) (pv 1) pe_str (fun _ _ => rfl)) pa_nil)) pe_int (nomark _)))))
      (pss_cons (ps_set (i := 6) sc_law_statement.nd rfl (Or.inl rfl) (pe_ix ix_tup (pe_ix ix_list (pe_dget (hu_of hr) (pv 1) pe_str (fun _ _ => rfl)) (pe_call G_law_draw (hr.mono (by omega)) rfl T.g_law_draw T.k_law_draw T.b_law_draw .nil pass0 (pa_cons (pv 0) (pa_cons (pe_callB call_len_seq (by rfl) T.z_len (by decide +kernel) (pa_cons (pe_dget (hu_of hr) (pv 1) pe_str (fun _ _ => rfl)) pa_nil)) pa_nil))) (fun _ _ => rfl)) pe_int (fun _ _ => rfl)))
    (pss_one (ps_ret (pe_tup (pa_cons pe_str (pa_cons (pv 6) (pa_cons (pv 5) (pa_cons (pe_call G_law_expression (hr.mono (by omega)) rfl T.g_law_expression T.k_law_expression T.b_law_expression .nil pass0 (pa_cons (pv 0) (pa_cons (pv 1) (pa_cons pe_int pa_nil)))) pa_nil))))))))
      pss_nil)
    (pss_cons (ps_if (pt_cmpR op_lt (pv 3) pe_int (nomark _))
      (pss_cons (ps_set (i := 7) sc_law_statement.nd rfl (Or.inl rfl) (pe_op op_add pe_int (pe_call G_law_draw (hr.mono (by omega)) rfl T.g_law_draw T.k_law_draw T.b_law_draw .nil pass0 (pa_cons (pv 0) (pa_cons (pe_callB (call_min2 rfl) (by rfl) T.z_min (by decide +kernel) (pa_cons (pe_ix ix_tup (pe_tup (pa_cons pe_int (pa_cons pe_int (pa_cons pe_int pa_nil)))) (pe_call G_law_draw (hr.mono (by omega)) rfl T.g_law_draw T.k_law_draw T.b_law_draw .nil pass0 (pa_cons (pv 0) (pa_cons pe_int pa_nil))) (fun _ _ => rfl)) (pa_cons (pe_dget (hu_of hr) (pv 1) pe_str (fun _ _ => rfl)) pa_nil))) pa_nil)))))
    (pss_cons (ps_dput (hu_of hr) (pv 1) pe_str (pe_op op_fdivW (pe_dget (hu_of hr) (pv 1) pe_str (fun _ _ => rfl)) (pv 7)) rfl)
    (pss_one (ps_ret (pe_tup (pa_cons pe_str (pa_cons (pv 4) (pa_cons (pv 7) pa_nil))))))))
      pss_nil)
    (pss_cons (ps_if (PW.pt (pw_and (pt_cmpR op_lt (pv 3) pe_int (nomark _)) (pw_and1 (pt_cmpR op_gt (pe_callB call_len_seq (by rfl) T.z_len (by decide +kernel) (pa_cons (pe_dget (hu_of hr) (pv 1) pe_str (fun _ _ => rfl)) pa_nil)) pe_int (nomark _)))))
      (pss_cons (ps_set (i := 8) sc_law_statement.nd rfl (Or.inl rfl) (pe_ix ix_list (pe_dget (hu_of hr) (pv 1) pe_str (fun _ _ => rfl)) (pe_call G_law_draw (hr.mono (by omega)) rfl T.g_law_draw T.k_law_draw T.b_law_draw .nil pass0 (pa_cons (pv 0) (pa_cons (pe_callB call_len_seq (by rfl) T.z_len (by decide +kernel) (pa_cons (pe_dget (hu_of hr) (pv 1) pe_str (fun _ _ => rfl)) pa_nil)) pa_nil))) (fun _ _ => rfl)))
    (pss_one (ps_if (pt_cmpR op_le (pe_ix ix_tup (pv 8) pe_int (fun _ _ => rfl)) (pe_dget (hu_of hr) (pv 1) pe_str (fun _ _ => rfl)) (nomark _))
      (pss_cons (ps_dput (hu_of hr) (pv 1) pe_str (pe_op op_fdivW (pe_dget (hu_of hr) (pv 1) pe_str (fun _ _ => rfl)) (pe_ix ix_tup (pv 8) pe_int (fun _ _ => rfl))) rfl)
    (pss_one (ps_ret (pe_tup (pa_cons pe_str (pa_cons (pv 4) (pa_cons (pe_ix ix_tup (pv 8) pe_int (fun _ _ => rfl)) (pa_cons (pv 5) pa_nil))))))))
      pss_nil)))
      pss_nil)
    (pss_cons (ps_if (PW.pt (pw_and (pt_cmpR op_lt (pv 3) pe_int (nomark _)) (pw_and1 (pt_cmpR op_gt (pv 2) pe_int (nomark _)))))
      (pss_cons (ps_set (i := 9) sc_law_statement.nd rfl (Or.inl rfl) (pe_call G_law_block (hr.mono (by omega)) rfl T.g_law_block T.k_law_block T.b_law_block .nil pass0 (pa_cons (pv 0) (pa_cons (pv 1) (pa_cons (pe_op op_sub (pv 2) pe_int) (pa_cons pe_int pa_nil))))))
    (pss_one (ps_ret (pe_tup (pa_cons pe_str (pa_cons (pv 5) (pa_cons (pv 9) (pa_cons (pe_call G_law_block (hr.mono (by omega)) rfl T.g_law_block T.k_law_block T.b_law_block .nil pass0 (pa_cons (pv 0) (pa_cons (pv 1) (pa_cons (pe_op op_sub (pv 2) pe_int) (pa_cons pe_int pa_nil))))) pa_nil))))))))
      pss_nil)
    (pss_cons (ps_if (PW.pt (pw_and (pt_cmpR op_eq (pv 3) pe_int (nomark _)) (pw_and1 (pt_cmpR op_gt (pv 2) pe_int (nomark _)))))
      (pss_one (ps_ret (pe_tup (pa_cons pe_str (pa_cons (pe_call G_law_block (hr.mono (by omega)) rfl T.g_law_block T.k_law_block T.b_law_block .nil pass0 (pa_cons (pv 0) (pa_cons (pv 1) (pa_cons (pe_op op_sub (pv 2) pe_int) (pa_cons pe_int pa_nil))))) pa_nil)))))
      pss_nil)
    (pss_cons (ps_if (pt_cmpR op_eq (pv 3) pe_int (nomark _))
      (pss_one (ps_ret (pe_tup (pa_cons pe_str pa_nil))))
      pss_nil)
    (pss_one (ps_ret (pe_tup (pa_cons pe_str (pa_cons (pv 4) (pa_cons (pv 5) pa_nil)))))))))))))))), ?_⟩
  refine ⟨_, rfl, a, l, ns, b, 16, rfl, G0.p, by decide, by decide, fun kd H1 r0 r1 b1 p1 => ?_⟩
  have G1 := G0.but b1 p1
  have ll : ((locs.map V.str).length : Int) = (locs.length : Int) := by rw [List.length_map]
  refine ⟨_, rfl, sc, _, rfl, DGet.k (k := .inr "locals") G1.s.d, _, rfl, _, rfl, sc, _, rfl, DGet.k (k := .inr "locals") G1.s.d, lc, _, rfl, .inl (SqL.of G1.s.l), a, l, ns, b, _, rfl, p1, by have := G1.z.l0; omega, by have := G1.z.l; omega, fun r2 H2 r20 r21 b2 p2 => ?_⟩
  obtain ⟨x, hx, ex⟩ := at_mem (xs := locs) r20 (by omega)
  have G2 := G1.but b2 p2
  refine ⟨lc, _, _, _, rfl, rfl, SqL.of G2.s.l, ex, ?_⟩
  refine ⟨_, rfl, _, rfl, a, l, ns, b, sc, v, t, o, lc, vars, tabs, lots, locs, w, rfl, G2, fun yv ev H3 b3 p3 dv ov => ?_⟩
  have G3 := G2.but b3 p3
  have b03 := b1.trans (b2.trans b3)
  clear b1 b2 b3 p1 p2 G1 G2
  unfold gName
  dsimp only
  -- a step more that is laid
  have one : ∀ (H4 : Hp) (r : Addr) (ys : List V) (ds : List PyData) (x : Stm) (b' w' : Int), But2 a sc H H4 → GA K H4 a l ns b' sc v t o lc vars tabs lots locs w' → H4 r = none → DpAll K H4 ys ds → x.d = .tuple ds → x.Ok (scOf vars tabs lots locs) 3 k → sCnt x + b'.toNat ≤ b.toNat + 1 → Q (.ref r) (upd H4 r (.tup ys)) := by
    intro H4 r ys ds x b' w' bb g hr d e o c
    have m := same_new hr (.tup ys)
    exact q _ x _ b' w' (bb.trans (But2.same m)) (g.same m) (by rw [e]; exact dp_tup hr d) o c
  refine seq_k (fun σ H' => σ = [some (.ref a), some (.ref sc), some (.int (k : Int)), some (.int kd), some (.str x), some yv, none, none, none, none] ∧ H' = H3) ?_ (fun k1 => ?_)
  rotate_left
  · refine ⟨_, rfl, _, _, rfl, rfl, _, rfl, ite2 (fun z1 => ?_) (fun _ => iteF (k1 _ _ ⟨rfl, rfl⟩))⟩
    obtain ⟨xs, ex, dx⟩ := G3.s.v
    have lx : xs.length = vars.length := by rw [DpAll.len dx, List.length_map]
    refine ⟨_, rfl, sc, _, rfl, DGet.k (k := .inr "variables") G3.s.d, v, xs, rfl, .inl (SqL.of ex), _, _, rfl, rfl, _, rfl, ite2 (fun z3 => ?_) (fun _ => k1 _ _ ⟨rfl, rfl⟩)⟩
    have z3 := of_decide_eq_true z3
    refine ⟨_, rfl, sc, _, rfl, DGet.k (k := .inr "variables") G3.s.d, _, rfl, _, rfl, sc, _, rfl, DGet.k (k := .inr "variables") G3.s.d, v, xs, rfl, .inl (SqL.of ex), a, l, ns, b, _, rfl, p3, by omega, by have := G3.z.v; omega, fun r2 H4 r20 r21 b4 p4 => ?_⟩
    obtain ⟨p, row, hrow, ep, sp⟩ := at_row (dps_tups (G3.tup b4) dx) r20 (by omega)
    refine ⟨v, xs, _, _, rfl, rfl, SqL.of (b4 _ _ ex G3.n.v), ep, p, _, 0, _, rfl, rfl, sp, atI_nat (j := 0) rfl, _, rfl, ?_⟩
    refine ⟨big 3 (by decide), fun r hr => ?_⟩
    exact one H4 r _ _ (.set row.1 ev) b w (But.two (But.trans b03 b4)) (G3.but b4 p4) hr (.cons (.str _) (.cons (.str _) (.cons (dp_tups (G3.tup b4) _ _ (Ex.nol ev) dv) .nil))) rfl ⟨List.mem_map.mpr ⟨row, hrow, rfl⟩, ov⟩ (by show 1 + _ ≤ _; omega)
  rintro σ H' ⟨rfl, rfl⟩
  refine seq_k (fun σ H'' => σ = [some (.ref a), some (.ref sc), some (.int (k : Int)), some (.int kd), some (.str x), some yv, none, none, none, none] ∧ H'' = H') ?_ (fun k1 => ?_)
  rotate_left
  · refine ⟨_, rfl, _, _, rfl, rfl, _, rfl, ite2 (fun z1 => ?_) (fun _ => iteF (k1 _ _ ⟨rfl, rfl⟩))⟩
    obtain ⟨xs, ex, dx⟩ := G3.s.t
    have lx : xs.length = tabs.length := by rw [DpAll.len dx, List.length_map]
    refine ⟨_, rfl, sc, _, rfl, DGet.k (k := .inr "tables") G3.s.d, t, xs, rfl, .inl (SqL.of ex), _, _, rfl, rfl, _, rfl, ite2 (fun z3 => ?_) (fun _ => k1 _ _ ⟨rfl, rfl⟩)⟩
    have z3 := of_decide_eq_true z3
    refine ⟨_, rfl, sc, _, rfl, DGet.k (k := .inr "tables") G3.s.d, _, rfl, _, rfl, sc, _, rfl, DGet.k (k := .inr "tables") G3.s.d, t, xs, rfl, .inl (SqL.of ex), a, l, ns, b, _, rfl, p3, by omega, by have := G3.z.t; omega, fun r2 H4 r20 r21 b4 p4 => ?_⟩
    obtain ⟨p, row, hrow, ep, sp⟩ := at_row (dps_tups (G3.tup b4) dx) r20 (by omega)
    have G4 := G3.but b4 p4
    refine ⟨t, xs, _, _, rfl, rfl, SqL.of (b4 _ _ ex G3.n.t), ep, p, _, 0, _, rfl, rfl, sp, atI_nat (j := 0) rfl, ?_⟩
    refine ⟨_, rfl, _, rfl, _, rfl, _, rfl, a, l, ns, b, sc, v, t, o, lc, vars, tabs, lots, locs, w, rfl, G4, fun y2 e2 H5 b5 p5 d5 o5 => ?_⟩
    refine ⟨big 4 (by decide), fun r hr => ?_⟩
    exact one H5 r _ _ (.put row.1 ev e2) b w (But.two (But.trans b03 (But.trans b4 b5))) (G4.but b5 p5) hr (.cons (.str _) (.cons (.str _) (.cons (dp_tups ((G3.tup b4).trans (G4.tup b5)) _ _ (Ex.nol ev) dv) (.cons d5 .nil)))) rfl ⟨List.mem_map.mpr ⟨row, hrow, rfl⟩, ov, o5⟩ (by show 1 + _ ≤ _; omega)
  rintro σ H'' ⟨rfl, rfl⟩
  refine seq_k (fun σ H' => σ = [some (.ref a), some (.ref sc), some (.int (k : Int)), some (.int kd), some (.str x), some yv, none, none, none, none] ∧ H' = H'') ?_ (fun k1 => ?_)
  rotate_left
  · refine ⟨_, rfl, _, _, rfl, rfl, _, rfl, ite2 (fun z1 => ?_) (fun _ => k1 _ _ ⟨rfl, rfl⟩)⟩
    have w0 := G3.z.w0
    have w1 := G3.z.w1
    refine ⟨_, rfl, big 3 (by decide), fun td htd => ?_⟩
    have md := same_new htd (.tup [V.int 4, V.int 4, V.int 64])
    have Gd := G3.same md
    have qd := G3.p.ne htd
    refine ⟨_, rfl, a, l, ns, b, 3, rfl, Gd.p, by decide, by decide, fun rd Hd rd0 rd1 bd pd => ?_⟩
    obtain ⟨u, eu, u0, u1⟩ : ∃ u : Int, atI [V.int 4, V.int 4, V.int 64] rd = some (.int u) ∧ 1 ≤ u ∧ u ≤ 64 := by
      obtain ⟨m, rfl⟩ : ∃ m : Nat, rd = (m : Int) := ⟨rd.toNat, by omega⟩
      match m, rd1 with
      | 0, _ => exact ⟨4, atI_nat (j := 0) rfl, by decide, by decide⟩
      | 1, _ => exact ⟨4, atI_nat (j := 1) rfl, by decide, by decide⟩
      | 2, _ => exact ⟨64, atI_nat (j := 2) rfl, by decide, by decide⟩
    have G3' := Gd.but bd pd
    have b03 := b03.trans ((But.same md).trans bd)
    refine ⟨td, _, _, _, rfl, rfl, SqT.of (bd _ _ upd_same qd.1), eu, ?_⟩
    refine ⟨_, rfl, sc, _, rfl, DGet.k (k := .inr "ways") G3'.s.d, _, _, rfl, a, l, ns, b, _, rfl, pd, by split <;> omega, by split <;> omega, fun r2 H4 r20 r21 b4 p4 => ?_⟩
    have G4 := G3'.but b4 p4
    have c1 : 1 ≤ 1 + r2 ∧ 1 + r2 ≤ 64 ∧ 1 + r2 ≤ w := by split at r21 <;> omega
    refine ⟨_, _, rfl, rfl, _, rfl, sc, _, rfl, DGet.k (k := .inr "ways") G4.s.d, _, rfl, _, _, rfl, rfl, wide_div (b := 10) (by omega) (by omega) (by decide) (by decide), ?_⟩
    have g0 : 1 ≤ w / (1 + r2) := (Int.le_ediv_iff_mul_le (by omega)).mpr (by omega)
    have g1 : w / (1 + r2) ≤ 1000000 := Int.le_trans (Int.ediv_le_self _ (by omega)) w1
    obtain ⟨b5, G5⟩ := G4.ways g0 g1
    refine ⟨_, rfl, sc, _, rfl, DPut.k (k := .inr "ways") G4.s.d (by show 5 < sizeLine; decide), ?_⟩
    refine ⟨_, rfl, _, rfl, big 3 (by decide), fun r hr => ?_⟩
    exact one _ r _ _ (.draw x (1 + r2)) b (w / (1 + r2)) ((But.two (But.trans b03 b4)).trans b5) G5 hr (.cons (.str _) (.cons (.str _) (.cons (.int _) .nil))) rfl ⟨hx, by omega, by omega⟩ (by show 1 + _ ≤ _; omega)
  rintro σ H' ⟨rfl, rfl⟩
  -- lots
  refine seq_k (fun σ H'' => (∃ yl, σ = [some (.ref a), some (.ref sc), some (.int (k : Int)), some (.int kd), some (.str x), some yv, none, none, yl, none]) ∧ But a H' H'' ∧ PoolB H'' a l ns b) ?_ (fun k1 => ?_)
  rotate_left
  · have k0 := k1 _ H' ⟨⟨none, rfl⟩, But.same (Same.refl _), p3⟩
    refine ⟨_, rfl, _, _, rfl, rfl, _, rfl, ite2 (fun z1 => ?_) (fun _ => iteF k0)⟩
    obtain ⟨xs, ex, dx⟩ := G3.s.o
    have lx : xs.length = lots.length := by rw [DpAll.len dx, List.length_map]
    refine ⟨_, rfl, sc, _, rfl, DGet.k (k := .inr "lots") G3.s.d, o, xs, rfl, .inl (SqL.of ex), _, _, rfl, rfl, _, rfl, ite2 (fun z3 => ?_) (fun _ => k0)⟩
    have z3 := of_decide_eq_true z3
    refine ⟨_, rfl, sc, _, rfl, DGet.k (k := .inr "lots") G3.s.d, _, rfl, _, rfl, sc, _, rfl, DGet.k (k := .inr "lots") G3.s.d, o, xs, rfl, .inl (SqL.of ex), a, l, ns, b, _, rfl, p3, by omega, by have := G3.z.o; omega, fun r2 H4 r20 r21 b4 p4 => ?_⟩
    obtain ⟨p, row, hrow, ep, sp⟩ := at_row (dps_tups (G3.tup b4) dx) r20 (by omega)
    have G4 := G3.but b4 p4
    have w0 := G4.z.w0
    have w1 := G4.z.w1
    have ob := G4.z.o1 row hrow
    refine ⟨o, xs, _, _, rfl, rfl, SqL.of (b4 _ _ ex G3.n.o), ep, ?_⟩
    refine ⟨_, rfl, p, _, 2, _, rfl, rfl, sp, atI_nat (j := 2) rfl, _, rfl, sc, _, rfl, DGet.k (k := .inr "ways") G4.s.d, _, _, rfl, rfl, _, rfl, ite2 (fun z4 => ?_) (fun _ => k1 _ H4 ⟨⟨_, rfl⟩, b4, p4⟩)⟩
    have z4 := of_decide_eq_true z4
    refine ⟨_, rfl, sc, _, rfl, DGet.k (k := .inr "ways") G4.s.d, _, rfl, p, _, 2, _, rfl, rfl, sp, atI_nat (j := 2) rfl, _, _, rfl, rfl, wide_div (b := 10) (by omega) (by omega) (by decide) (by decide), ?_⟩
    have g0 : 1 ≤ w / row.2.2 := (Int.le_ediv_iff_mul_le (by omega)).mpr (by omega)
    have g1 : w / row.2.2 ≤ 1000000 := Int.le_trans (Int.ediv_le_self _ (by omega)) w1
    obtain ⟨b5, G5⟩ := G4.ways g0 g1
    refine ⟨_, rfl, sc, _, rfl, DPut.k (k := .inr "ways") G4.s.d (by show 5 < sizeLine; decide), ?_⟩
    have t45 := G4.tup2 b5
    refine ⟨_, rfl, _, rfl, p, _, 0, _, rfl, rfl, sqT_tups t45 sp, atI_nat (j := 0) rfl, _, rfl, big 4 (by decide), fun r hr => ?_⟩
    exact one _ r _ _ (.lot x row.1 ev) b (w / row.2.2) ((But.two (But.trans b03 b4)).trans b5) G5 hr (.cons (.str _) (.cons (.str _) (.cons (.str _) (.cons (dp_tups ((G3.tup b4).trans t45) _ _ (Ex.nol ev) dv) .nil)))) rfl ⟨hx, List.mem_map.mpr ⟨row, hrow, rfl⟩, ov⟩ (by show 1 + _ ≤ _; omega)
  rintro σ H5 ⟨⟨yl, rfl⟩, b5, p5⟩
  have G5 := G3.but b5 p5
  have b05 := b03.trans b5
  have dv5 := dp_tups (G3.tup b5) _ _ (Ex.nol ev) dv
  clear b03 b5 p3 dv G3
  -- if
  refine seq_k (fun σ H' => σ = [some (.ref a), some (.ref sc), some (.int (k : Int)), some (.int kd), some (.str x), some yv, none, none, yl, none] ∧ H' = H5) ?_ (fun k1 => ?_)
  rotate_left
  · refine ⟨_, rfl, _, _, rfl, rfl, _, rfl, ite2 (fun z1 => ?_) (fun _ => iteF (k1 _ _ ⟨rfl, rfl⟩))⟩
    refine ⟨_, rfl, _, _, rfl, rfl, _, rfl, ite2 (fun z2 => ?_) (fun _ => k1 _ _ ⟨rfl, rfl⟩)⟩
    have z2 := of_decide_eq_true z2
    obtain ⟨j, rfl⟩ : ∃ j, k = j + 1 := ⟨k - 1, by omega⟩
    have ej : V.int (((j + 1 : Nat) : Int) - 1) = V.int (j : Nat) := by congr 1; omega
    refine ⟨_, rfl, _, rfl, _, rfl, _, _, rfl, rfl, hsp j rfl _ _ _ _ ⟨a, l, ns, b, sc, v, t, o, lc, vars, tabs, lots, locs, w, 3, by rw [← ej]; rfl, by decide, by decide, G5, fun y1 x1 H6 b1 w1 b6 G6 d6 o6 c6 l6 => ?_⟩⟩
    refine ⟨_, rfl, _, rfl, _, rfl, _, rfl, _, rfl, _, _, rfl, rfl, hsp j rfl _ _ _ _ ⟨a, l, ns, b1, sc, v, t, o, lc, vars, tabs, lots, locs, w1, 2, by rw [← ej]; rfl, by decide, by decide, G6, fun y2 x2 H7 b2 w2 b7 G7 d7 o7 c7 l7 => ?_⟩⟩
    refine ⟨big 4 (by decide), fun r hr => ?_⟩
    exact one H7 r _ _ (.ite ev x1 x2) b2 w2 ((But.two b05).trans (b6.trans b7)) G7 hr (.cons (.str _) (.cons (dp_tups ((G5.tup2 b6).trans (G6.tup2 b7)) _ _ (Ex.nol ev) dv5) (.cons (dp_tups (G6.tup2 b7) x1.d _ (Blk.nol x1) d6) (.cons d7 .nil)))) rfl ⟨ov, o6, o7, by omega, by omega⟩ (by show 1 + (bCnt x1 + bCnt x2) + _ ≤ _; omega)
  rintro σ H6 ⟨rfl, rfl⟩
  -- after
  refine seq_k (fun σ H' => σ = [some (.ref a), some (.ref sc), some (.int (k : Int)), some (.int kd), some (.str x), some yv, none, none, yl, none] ∧ H' = H6) ?_ (fun k1 => ?_)
  rotate_left
  · refine ⟨_, rfl, rfl, _, rfl, ite2 (fun z1 => ?_) (fun _ => iteF (k1 _ _ ⟨rfl, rfl⟩))⟩
    refine ⟨_, rfl, _, _, rfl, rfl, _, rfl, ite2 (fun z2 => ?_) (fun _ => k1 _ _ ⟨rfl, rfl⟩)⟩
    have z2 := of_decide_eq_true z2
    obtain ⟨j, rfl⟩ : ∃ j, k = j + 1 := ⟨k - 1, by omega⟩
    have ej : V.int (((j + 1 : Nat) : Int) - 1) = V.int (j : Nat) := by congr 1; omega
    refine ⟨_, rfl, _, rfl, _, rfl, _, _, rfl, rfl, hsp j rfl _ _ _ _ ⟨a, l, ns, b, sc, v, t, o, lc, vars, tabs, lots, locs, w, 2, by rw [← ej]; rfl, by decide, by decide, G5, fun y1 x1 H6 b1 w1 b6 G6 d6 o6 c6 l6 => ?_⟩⟩
    refine ⟨big 2 (by decide), fun r hr => ?_⟩
    exact one H6 r _ _ (.after x1) b1 w1 ((But.two b05).trans b6) G6 hr (.cons (.str _) (.cons d6 .nil)) rfl ⟨o6, by omega⟩ (by show 1 + bCnt x1 + _ ≤ _; omega)
  rintro σ H7 ⟨rfl, rfl⟩
  -- bad
  refine seq_k (fun σ H' => σ = [some (.ref a), some (.ref sc), some (.int (k : Int)), some (.int kd), some (.str x), some yv, none, none, yl, none] ∧ H' = H7) ?_ (fun k1 => ?_)
  rotate_left
  · refine ⟨_, rfl, rfl, _, rfl, ite2 (fun z1 => ?_) (fun _ => k1 _ _ ⟨rfl, rfl⟩)⟩
    refine ⟨big 1 (by decide), fun r hr => ?_⟩
    exact one H7 r _ _ .bad b w (But.two b05) G5 hr (.cons (.str _) .nil) rfl (by cases k <;> trivial) (by show 1 + _ ≤ _; omega)
  rintro σ H8 ⟨rfl, rfl⟩
  refine ⟨_, rfl, _, rfl, big 3 (by decide), fun r hr => ?_⟩
  exact one H8 r _ _ (.lt x ev) b w (But.two b05) G5 hr (.cons (.str _) (.cons (.str _) (.cons dv5 .nil))) rfl ⟨hx, ov⟩ (by show 1 + _ ≤ _; omega)
/-- the list that a block is laid in -/
structure NB (B a l sc v t o lc : Addr) : Prop where
  a : B ≠ a
  l : B ≠ l
  sc : B ≠ sc
  v : B ≠ v
  t : B ≠ t
  o : B ≠ o
  lc : B ≠ lc
theorem GA.nb {K : PySem.W.Frag} {H : Hp} {a l B : Addr} {ns : List Int} {b : Int} {sc v t o lc : Addr} {vars tabs lots : List Row} {locs : List Str} {w : Int} (h : GA K H a l ns b sc v t o lc vars tabs lots locs w) (n : H B = none) : NB B a l sc v t o lc := by
  obtain ⟨n1, n2⟩ := h.p.ne n
  have ne : ∀ {x : Addr} {u : HO}, H x = some u → B ≠ x := fun {x u} ex z => by rw [← z, n] at ex; cases ex
  obtain ⟨xs, x1, x2⟩ := h.s.v
  obtain ⟨ys, y1, y2⟩ := h.s.t
  obtain ⟨us, u1, u2⟩ := h.s.o
  exact ⟨n1, n2, ne h.s.d, ne x1, ne y1, ne u1, ne h.s.l⟩
theorem GA.updB {K : PySem.W.Frag} {H : Hp} {a l B : Addr} {ns : List Int} {b : Int} {sc v t o lc : Addr} {vars tabs lots : List Row} {locs : List Str} {w : Int} {ys zs : List V} (h : GA K H a l ns b sc v t o lc vars tabs lots locs w) (n : NB B a l sc v t o lc) (e : H B = some (.lst ys)) : GA K (upd H B (.lst zs)) a l ns b sc v t o lc vars tabs lots locs w := by
  have tp : Tups H (upd H B (.lst zs)) := Tups.lst e
  obtain ⟨xs, x1, x2⟩ := h.s.v
  obtain ⟨ys, y1, y2⟩ := h.s.t
  obtain ⟨us, u1, u2⟩ := h.s.o
  exact ⟨h.p.upd ⟨n.a, n.l⟩, ⟨by rw [upd_ne n.sc.symm]; exact h.s.d, ⟨xs, by rw [upd_ne n.v.symm]; exact x1, dps_tups tp x2⟩, ⟨ys, by rw [upd_ne n.t.symm]; exact y1, dps_tups tp y2⟩, ⟨us, by rw [upd_ne n.o.symm]; exact u1, dps_tups tp u2⟩, by rw [upd_ne n.lc.symm]; exact h.s.l⟩, h.n, h.z⟩
def sumC (xs : List Stm) : Nat := bCnt (Blk.of xs)
theorem sumC_more (xs : List Stm) (x : Stm) : sumC (xs ++ [x]) = sumC xs + sCnt x := by
  induction xs with
  | nil =>
    show sCnt x + 0 = 0 + sCnt x
    omega
  | cons y ys ih =>
    show sCnt y + sumC (ys ++ [x]) = sCnt y + sumC ys + sCnt x
    rw [ih]
    omega
theorem ofOk {s : Sc} {k d : Nat} : ∀ {xs : List Stm}, (∀ x ∈ xs, x.Ok s k d) → (Blk.of xs).Ok s k d
  | [], _ => by cases d <;> trivial
  | x :: xs, h => by
    have h1 := h x (List.mem_cons_self ..)
    have h2 := ofOk fun y hy => h y (List.mem_cons_of_mem _ hy)
    cases d <;> exact ⟨h1, h2⟩
theorem of_ds : ∀ xs : List Stm, (Blk.of xs).ds = xs.map Stm.d
  | [] => rfl
  | x :: xs => by
    show x.d :: (Blk.of xs).ds = _
    rw [of_ds xs]
    rfl
theorem stms_nol : ∀ xs : List Stm, nolAll (xs.map Stm.d) = true
  | [] => rfl
  | x :: xs => by
    show (nol x.d && nolAll (xs.map Stm.d)) = true
    rw [Stm.nol x, stms_nol xs]
    rfl
theorem of_len : ∀ xs : List Stm, (Blk.of xs).len = xs.length
  | [] => rfl
  | x :: xs => by
    show (Blk.of xs).len + 1 = _
    rw [of_len xs]
    rfl
theorem ok_lbl_step (T : Txt K mg file) (k : Nat) (G_law_statement : FnOk P w K mg base CX0 (2 * k + 6) T.a_law_statement T.fd_law_statement ["pool", "scope", "room"] (spLSt K k)) :
    FnOk P w K mg base CX0 (2 * k + 7) T.a_law_block T.fd_law_block ["pool", "scope", "room", "most"] (spLBl K k) := by
  have G_law_draw : FnOk P w K mg base CX0 1 T.a_law_draw T.fd_law_draw ["pool", "size"] spDraw := ok_draw T
  have G_law_spend : FnOk P w K mg base CX0 1 T.a_law_spend T.fd_law_spend ["pool"] spSpend := ok_spend T
  refine T.F_law_block.ok sc_law_block (fun vs H Q E h => ?_) (fun cdv A outer s H vs Q E hr h => ?_)
  · obtain ⟨a, l, ns, b, sc, v, t, o, lc, vars, tabs, lots, locs, w, m, rfl, _⟩ := h
    rfl
  obtain ⟨a, l, ns, b, sc, v, t, o, lc, vars, tabs, lots, locs, w, m, rfl, m0, m1, G0, q⟩ := h
  refine ⟨_, (pss_cons (ps_set (i := 4) sc_law_block.nd rfl (Or.inl rfl) (pe_lst pa_nil))
    (pss_cons (ps_for PassesOwn.never rfl (pi_range1 (by rfl) T.z_range (pa_cons (pe_call G_law_draw (hr.mono (by omega)) rfl T.g_law_draw T.k_law_draw T.b_law_draw .nil pass0 (pa_cons (pv 0) (pa_cons (pe_op op_add (pv 3) pe_int) pa_nil))) pa_nil)) (pg_name (i := 5) sc_law_block.nd rfl (Or.inl rfl))
      (pss_one (ps_if (pt_val (pe_call G_law_spend (hr.mono (by omega)) rfl T.g_law_spend T.k_law_spend T.b_law_spend .nil pass0 (pa_cons (pv 0) pa_nil)))
      (pss_one (ps_expr (pe_bm PySem.F.plainAttrs_list PySem.F.slot_list_append PySem.F.type_list_append mt_append (pv 4) (pa_cons (pe_call G_law_statement (hr.mono (by omega)) rfl T.g_law_statement T.k_law_statement T.b_law_statement .nil pass0 (pa_cons (pv 0) (pa_cons (pv 1) (pa_cons (pv 2) pa_nil)))) pa_nil))))
      pss_nil)))
    (pss_one (ps_ret (pe_callTy call_tuple_of (by rfl) T.z_tuple (by decide +kernel) (pa_cons (pv 4) pa_nil)))))), ?_⟩
  refine ⟨big 0 (by decide), fun B hB => ?_⟩
  have nb := G0.nb hB
  have s1 := same_new hB (.lst [])
  have G1 := G0.same s1
  refine ⟨_, rfl, _, rfl, _, _, rfl, rfl, a, l, ns, b, _, rfl, G1.p, by omega, by omega, fun r H2 r0 r1 b2 p2 => ?_⟩
  have G2 := G1.but b2 p2
  have e2 := b2 _ _ (upd_same (H := H) (a := B) (o := .lst [])) nb.a
  obtain ⟨n, en⟩ : ∃ n : Nat, r = (n : Int) := ⟨r.toNat, by omega⟩
  refine ⟨_, rfl, by omega, by omega, ?_⟩
  rw [show r.toNat = n by omega]
  refine for_range (lo := 0) (n := n) (fun i σ H' => ∃ (b' w' : Int) (ys : List V) (xs : List Stm) (y5 : Option V), σ = [some (.ref a), some (.ref sc), some (.int (k : Int)), some (.int m), some (.ref B), y5] ∧ But2 a sc H H' ∧ GA K H' a l ns b' sc v t o lc vars tabs lots locs w' ∧ H' B = some (.lst ys) ∧ DpAll K H' ys (xs.map Stm.d) ∧
    (∀ x ∈ xs, x.Ok (scOf vars tabs lots locs) 3 k) ∧ sumC xs + b'.toNat ≤ b.toNat ∧ xs.length ≤ i) ⟨b, w, [], [], none, rfl, (But2.same s1).trans (But.two b2), G2, e2, .nil, (fun x hx => nomatch hx), by show 0 + _ ≤ _; omega, Nat.le_refl _⟩ ?_ ?_
  · rintro i σ H3 hi ⟨b', w', ys, xs, y5, rfl, b3, G3, e3, d3, o3, c3, l3⟩
    have lys : ys.length = xs.length := by rw [DpAll.len d3, List.length_map]
    refine ⟨_, rfl, a, l, ns, b', rfl, G3.p, fun H4 b4 p4 => ⟨_, rfl, ite2 (fun z => ?_) (fun z => ?_)⟩⟩
    · have z := of_decide_eq_true z
      have G4 := G3.but b4 p4
      have e4 := b4 _ _ e3 nb.a
      have d4 := dp_tupsAll (G3.tup b4) _ _ (stms_nol xs) d3
      refine ⟨_, rfl, .inl ⟨rfl, _, SqL.of e4⟩, _, rfl, _, rfl, _, rfl, a, l, ns, b' - 1, sc, v, t, o, lc, vars, tabs, lots, locs, w', rfl, G4, fun y x H5 b'' w'' b5 G5 d5 o5 c5 => ?_⟩
      have e5 := b5 _ _ e4 nb.a nb.sc
      refine ⟨B, _, _, rfl, rfl, e5, big' _ (by omega), b'', w'', ys ++ [y], xs ++ [x], _, rfl, fun c u ec n1 n2 => ?_, G5.updB nb e5, upd_same, ?_, fun x' hx' => ?_, by rw [sumC_more]; omega, by rw [List.length_append]; show _ + 1 ≤ _; omega⟩
      · rw [upd_ne (ne_of_none ec hB)]
        exact b5 _ _ (b4 _ _ (b3 _ _ ec n1 n2) n1) n1 n2
      · rw [List.map_append]
        have tp : Tups H5 (upd H5 B (.lst (ys ++ [y]))) := Tups.lst e5
        exact DpAll.app (dp_tupsAll ((G4.tup2 b5).trans tp) _ _ (stms_nol xs) d4) (.cons (dp_tups tp _ _ (Stm.nol x) d5) .nil)
      · rcases List.mem_append.mp hx' with hx' | hx'
        · exact o3 _ hx'
        · rw [List.mem_singleton.mp hx']
          exact o5
    · have z := of_decide_eq_false (Bool.eq_false_iff.mpr z)
      exact ⟨b' - 1, w', ys, xs, _, rfl, b3.trans (But.two b4), G3.but b4 p4, b4 _ _ e3 nb.a, dp_tupsAll (G3.tup b4) _ _ (stms_nol xs) d3, o3, by omega, by omega⟩
  · rintro σ H3 ⟨b', w', ys, xs, y5, rfl, b3, G3, e3, d3, o3, c3, l3⟩
    have lys : ys.length = xs.length := by rw [DpAll.len d3, List.length_map]
    refine ⟨_, rfl, B, ys, rfl, .inl ⟨SqL.of e3, fun p hp => ?_⟩⟩
    have s4 := same_new hp (.tup ys)
    refine q (.ref p) (Blk.of xs) _ b' w' (b3.trans (But2.same s4)) (G3.same s4) ?_ (ofOk o3) c3 (by rw [of_len]; omega)
    show Dp K _ (.ref p) (.tuple (Blk.of xs).ds)
    rw [of_ds]
    exact dp_tup hp d3
theorem ok_lst (T : Txt K mg file) : ∀ k : Nat, FnOk P w K mg base CX0 (2 * k + 6) T.a_law_statement T.fd_law_statement ["pool", "scope", "room"] (spLSt K k)
  | 0 => ok_lst_step T 0 (fun _ _ _ _ => False) ⟨fun _ _ _ _ h => h.elim, fun _ _ _ _ _ _ _ _ _ _ _ _ _ h => h.elim⟩ (fun j h => absurd h (by omega))
  | k + 1 => ok_lst_step T (k + 1) _ (ok_lbl_step T k (ok_lst T k)) (fun j h vs H Q E q => by
      obtain rfl : k = j := by omega
      exact q)
theorem ok_lbl (T : Txt K mg file) (k : Nat) : FnOk P w K mg base CX0 (2 * k + 7) T.a_law_block T.fd_law_block ["pool", "scope", "room", "most"] (spLBl K k) := ok_lbl_step T k (ok_lst T k)
end
end Toy
set_option Elab.async false
set_option linter.all false
set_option maxRecDepth 100000
set_option maxHeartbeats 4000000
namespace Toy
open PySem L2 NdefX Gm Pz
open Mine hiding same_new
theorem cut_take (xs : List V) (k : Nat) : cutV xs none (some (k : Int)) = xs.take k := by
  unfold cutV
  have e : HT.sIx xs.length xs.length (some (k : Int)) = min k xs.length := by
    have : ¬ ((k : Int) < 0) := by omega
    simp [HT.sIx, this]
    try omega
  rw [e, show HT.sIx xs.length 0 none = 0 from rfl, List.drop_zero, Nat.sub_zero]
  by_cases h : k ≤ xs.length
  · rw [Nat.min_eq_left h]
  · rw [Nat.min_eq_right (by omega), List.take_length, List.take_of_length_le (by omega)]
/-- the lists are different ones -/
structure NeL (l v t o lc : Addr) : Prop where
  lv : l ≠ v
  lt : l ≠ t
  lo : l ≠ o
  vt : v ≠ t
  vo : v ≠ o
  vc : v ≠ lc
  to : t ≠ o
  tc : t ≠ lc
  oc : o ≠ lc
/-- what a game is drawn with, ahead of its procedures -/
structure GB (K : PySem.W.Frag) (H : Hp) (a l : Addr) (ns : List Int) (b : Int) (sc v t o lc : Addr) (vars tabs lots : List Row) (locs : List Str) (w : Int) : Prop where
  p : PoolB H a l ns b
  s : ScG K H sc v t o lc vars tabs lots locs w
  n : NeP a sc v t o lc
  d : NeL l v t o lc
section
variable {K : PySem.W.Frag} {H H' : Hp} {a l : Addr} {ns : List Int} {b b' : Int} {sc v t o lc : Addr} {vars tabs lots : List Row} {locs : List Str} {w : Int}
theorem GB.but (h : GB K H a l ns b sc v t o lc vars tabs lots locs w) (bt : But a H H') (p : PoolB H' a l ns b') : GB K H' a l ns b' sc v t o lc vars tabs lots locs w := by
  obtain ⟨zs, e⟩ := h.p.lst
  exact ⟨p, h.s.but bt e h.n, h.n, h.d⟩
theorem GB.same (h : GB K H a l ns b sc v t o lc vars tabs lots locs w) (s : Same H H') : GB K H' a l ns b sc v t o lc vars tabs lots locs w := h.but (But.same s) (h.p.same s)
theorem GB.tup (h : GB K H a l ns b sc v t o lc vars tabs lots locs w) (bt : But a H H') : Tups H H' := by
  obtain ⟨zs, e⟩ := h.p.lst
  exact But.tup bt e
theorem ScG.scl (h : ScG K H sc v t o lc vars tabs lots locs w) {x : Addr} {xs : List V} (e : H x = some (.lst xs)) : sc ≠ x := fun z => by
  rw [← z, h.d] at e
  cases e
/-- one row more -/
theorem GB.addV (h : GB K H a l ns b sc v t o lc vars tabs lots locs w) {xs : List V} (e : H v = some (.lst xs)) {y : V} {r : Row} (dy : Dp K H y (trip r)) (dx : DpAll K H xs (vars.map trip)) : GB K (upd H v (.lst (xs ++ [y]))) a l ns b sc v t o lc (vars ++ [r]) tabs lots locs w := by
  obtain ⟨ys, y1, y2⟩ := h.s.t
  obtain ⟨us, u1, u2⟩ := h.s.o
  have tp : Tups H (upd H v (.lst (xs ++ [y]))) := Tups.lst e
  refine ⟨h.p.upd ⟨h.n.v, h.d.lv.symm⟩, ⟨by rw [upd_ne (h.s.scl e)]; exact h.s.d, ⟨_, upd_same, ?_⟩, ⟨ys, by rw [upd_ne h.d.vt.symm]; exact y1, dps_tups tp y2⟩, ⟨us, by rw [upd_ne h.d.vo.symm]; exact u1, dps_tups tp u2⟩, by rw [upd_ne h.d.vc.symm]; exact h.s.l⟩, h.n, h.d⟩
  rw [List.map_append]
  exact DpAll.app (dps_tups tp dx) (.cons (dp_tups tp _ _ (trip_nol r) dy) .nil)
theorem GB.addT (h : GB K H a l ns b sc v t o lc vars tabs lots locs w) {xs : List V} (e : H t = some (.lst xs)) {y : V} {r : Row} (dy : Dp K H y (trip r)) (dx : DpAll K H xs (tabs.map trip)) : GB K (upd H t (.lst (xs ++ [y]))) a l ns b sc v t o lc vars (tabs ++ [r]) lots locs w := by
  obtain ⟨ys, y1, y2⟩ := h.s.v
  obtain ⟨us, u1, u2⟩ := h.s.o
  have tp : Tups H (upd H t (.lst (xs ++ [y]))) := Tups.lst e
  refine ⟨h.p.upd ⟨h.n.t, h.d.lt.symm⟩, ⟨by rw [upd_ne (h.s.scl e)]; exact h.s.d, ⟨ys, by rw [upd_ne h.d.vt]; exact y1, dps_tups tp y2⟩, ⟨_, upd_same, ?_⟩, ⟨us, by rw [upd_ne h.d.to.symm]; exact u1, dps_tups tp u2⟩, by rw [upd_ne h.d.tc.symm]; exact h.s.l⟩, h.n, h.d⟩
  rw [List.map_append]
  exact DpAll.app (dps_tups tp dx) (.cons (dp_tups tp _ _ (trip_nol r) dy) .nil)
theorem GB.addO (h : GB K H a l ns b sc v t o lc vars tabs lots locs w) {xs : List V} (e : H o = some (.lst xs)) {y : V} {r : Row} (dy : Dp K H y (trip r)) (dx : DpAll K H xs (lots.map trip)) : GB K (upd H o (.lst (xs ++ [y]))) a l ns b sc v t o lc vars tabs (lots ++ [r]) locs w := by
  obtain ⟨ys, y1, y2⟩ := h.s.v
  obtain ⟨us, u1, u2⟩ := h.s.t
  have tp : Tups H (upd H o (.lst (xs ++ [y]))) := Tups.lst e
  refine ⟨h.p.upd ⟨h.n.o, h.d.lo.symm⟩, ⟨by rw [upd_ne (h.s.scl e)]; exact h.s.d, ⟨ys, by rw [upd_ne h.d.vo]; exact y1, dps_tups tp y2⟩, ⟨us, by rw [upd_ne h.d.to]; exact u1, dps_tups tp u2⟩, ⟨_, upd_same, ?_⟩, by rw [upd_ne h.d.oc.symm]; exact h.s.l⟩, h.n, h.d⟩
  rw [List.map_append]
  exact DpAll.app (dps_tups tp dx) (.cons (dp_tups tp _ _ (trip_nol r) dy) .nil)
end
section
variable {K : PySem.W.Frag} {H H' : Hp} {a l : Addr} {ns : List Int} {b b' : Int} {sc v t o lc c : Addr} {vars tabs lots : List Row} {locs locs' : List Str} {w w' : Int}
theorem GB.ways (h : GB K H a l ns b sc v t o lc vars tabs lots locs w) : GB K (upd H sc (.dK (putK [(.inr "variables", .ref v), (.inr "tables", .ref t), (.inr "lots", .ref o), (.inr "locals", .ref lc), (.inr "ways", .int w)] (.inr "ways") (.int w')))) a l ns b sc v t o lc vars tabs lots locs w' := by
  have e : putK [((.inr "variables" : Key), V.ref v), (.inr "tables", .ref t), (.inr "lots", .ref o), (.inr "locals", .ref lc), (.inr "ways", .int w)] (.inr "ways") (.int w') = [(.inr "variables", .ref v), (.inr "tables", .ref t), (.inr "lots", .ref o), (.inr "locals", .ref lc), (.inr "ways", .int w')] := by rfl
  rw [e]
  have tp : Tups H (upd H sc (.dK [(.inr "variables", .ref v), (.inr "tables", .ref t), (.inr "lots", .ref o), (.inr "locals", .ref lc), (.inr "ways", .int w')])) := Tups.dK h.s.d
  obtain ⟨xs, x1, x2⟩ := h.s.v
  obtain ⟨ys, y1, y2⟩ := h.s.t
  obtain ⟨us, u1, u2⟩ := h.s.o
  obtain ⟨p1, p2, p3, p4, e1, e2, e3, e4⟩ := id h.p
  exact ⟨h.p.upd ⟨h.n.sc, h.s.scl e2⟩, ⟨upd_same, ⟨xs, by rw [upd_ne (h.s.scl x1).symm]; exact x1, dps_tups tp x2⟩, ⟨ys, by rw [upd_ne (h.s.scl y1).symm]; exact y1, dps_tups tp y2⟩, ⟨us, by rw [upd_ne (h.s.scl u1).symm]; exact u1, dps_tups tp u2⟩, by rw [upd_ne (h.s.scl h.s.l).symm]; exact h.s.l⟩, h.n, h.d⟩
theorem GB.newLocs (h : GB K H a l ns b sc v t o lc vars tabs lots locs w) (hc : H c = some (.lst (locs'.map V.str))) (ca : c ≠ a) (d : NeL l v t o c) : GB K (upd H sc (.dK (putK [(.inr "variables", .ref v), (.inr "tables", .ref t), (.inr "lots", .ref o), (.inr "locals", .ref lc), (.inr "ways", .int w)] (.inr "locals") (.ref c)))) a l ns b sc v t o c vars tabs lots locs' w := by
  have e : putK [((.inr "variables" : Key), V.ref v), (.inr "tables", .ref t), (.inr "lots", .ref o), (.inr "locals", .ref lc), (.inr "ways", .int w)] (.inr "locals") (.ref c) = [(.inr "variables", .ref v), (.inr "tables", .ref t), (.inr "lots", .ref o), (.inr "locals", .ref c), (.inr "ways", .int w)] := by rfl
  rw [e]
  have tp : Tups H (upd H sc (.dK [(.inr "variables", .ref v), (.inr "tables", .ref t), (.inr "lots", .ref o), (.inr "locals", .ref c), (.inr "ways", .int w)])) := Tups.dK h.s.d
  obtain ⟨xs, x1, x2⟩ := h.s.v
  obtain ⟨ys, y1, y2⟩ := h.s.t
  obtain ⟨us, u1, u2⟩ := h.s.o
  obtain ⟨p1, p2, p3, p4, e1, e2, e3, e4⟩ := id h.p
  exact ⟨h.p.upd ⟨h.n.sc, h.s.scl e2⟩, ⟨upd_same, ⟨xs, by rw [upd_ne (h.s.scl x1).symm]; exact x1, dps_tups tp x2⟩, ⟨ys, by rw [upd_ne (h.s.scl y1).symm]; exact y1, dps_tups tp y2⟩, ⟨us, by rw [upd_ne (h.s.scl u1).symm]; exact u1, dps_tups tp u2⟩, by rw [upd_ne (h.s.scl hc).symm]; exact hc⟩, { h.n with lc := ca }, d⟩
/-- what may be spent, set anew -/
theorem GB.spend (h : GB K H a l ns b sc v t o lc vars tabs lots locs w) (b' : Int) : ∃ zs, H a = some (.lst zs) ∧ zs.length = 6 ∧ GB K (upd H a (.lst (zs.set 5 (.int b')))) a l ns b' sc v t o lc vars tabs lots locs w := by
  obtain ⟨p1, p2, p3, p4, e1, e2, e3, e4⟩ := id h.p
  exact ⟨_, e1, rfl, h.but (fun x u e n => by rw [upd_ne n]; exact e) ⟨p1, p2, p3, p4, upd_same, by rw [upd_ne e3]; exact e2, e3, e4⟩⟩
theorem GB.updB {B : Addr} {ys zs : List V} (h : GB K H a l ns b sc v t o lc vars tabs lots locs w) (n : NB B a l sc v t o lc) (e : H B = some (.lst ys)) : GB K (upd H B (.lst zs)) a l ns b sc v t o lc vars tabs lots locs w := by
  have tp : Tups H (upd H B (.lst zs)) := Tups.lst e
  obtain ⟨xs, x1, x2⟩ := h.s.v
  obtain ⟨ys, y1, y2⟩ := h.s.t
  obtain ⟨us, u1, u2⟩ := h.s.o
  exact ⟨h.p.upd ⟨n.a, n.l⟩, ⟨by rw [upd_ne n.sc.symm]; exact h.s.d, ⟨xs, by rw [upd_ne n.v.symm]; exact x1, dps_tups tp x2⟩, ⟨ys, by rw [upd_ne n.t.symm]; exact y1, dps_tups tp y2⟩, ⟨us, by rw [upd_ne n.o.symm]; exact u1, dps_tups tp u2⟩, by rw [upd_ne n.lc.symm]; exact h.s.l⟩, h.n, h.d⟩
theorem GB.nb {B : Addr} (h : GB K H a l ns b sc v t o lc vars tabs lots locs w) (n : H B = none) : NB B a l sc v t o lc := by
  obtain ⟨n1, n2⟩ := h.p.ne n
  have ne : ∀ {x : Addr} {u : HO}, H x = some u → B ≠ x := fun {x u} ex z => by rw [← z, n] at ex; cases ex
  obtain ⟨xs, x1, x2⟩ := h.s.v
  obtain ⟨ys, y1, y2⟩ := h.s.t
  obtain ⟨us, u1, u2⟩ := h.s.o
  exact ⟨n1, n2, ne h.s.d, ne x1, ne y1, ne u1, ne h.s.l⟩
theorem NB.neL {B : Addr} (n : NB B a l sc v t o lc) (d : NeL l v t o lc) : NeL l v t o B := ⟨d.lv, d.lt, d.lo, d.vt, d.vo, n.v.symm, d.to, n.t.symm, n.o.symm⟩
end
theorem strs_dp {K : PySem.W.Frag} {H : Hp} : ∀ xs : List Str, DpAll K H (xs.map V.str) (xs.map PyData.str)
  | [] => .nil
  | x :: xs => .cons (.str x) (strs_dp xs)
def wI (wide : Bool) : Int := if wide = true then 1 else 0
def xyz : List Str := ["x", "y", "z"]
def tss : List Str := ["t", "s"]
def oks : List Str := ["o", "k"]
def prs : List Str := ["p", "r"]
def gab : List Str := ["g", "a", "b", "c", "d", "e"]
theorem xyz_at : ∀ n : Nat, n < 3 → ∃ c, (signs "xyz")[n]? = some c ∧ xyz[n]? = some (⟨#[c]⟩ : Str) := by decide +kernel
theorem tss_at : ∀ n : Nat, n < 2 → ∃ c, (signs "ts")[n]? = some c ∧ tss[n]? = some (⟨#[c]⟩ : Str) := by decide +kernel
theorem oks_at : ∀ n : Nat, n < 2 → ∃ c, (signs "ok")[n]? = some c ∧ oks[n]? = some (⟨#[c]⟩ : Str) := by decide +kernel
theorem prs_at : ∀ n : Nat, n < 2 → ∃ c, (signs "pr")[n]? = some c ∧ prs[n]? = some (⟨#[c]⟩ : Str) := by decide +kernel
structure PrW (wide : Bool) (vars tabs lots : List Row) (p : Pr) : Prop where
  size : 1 ≤ p.size ∧ p.size ≤ 64
  ans : 2 ≤ p.ans ∧ p.ans ≤ 64
  locs : ∃ n, 2 ≤ n ∧ n ≤ 6 ∧ p.locs = gab.take n
  block : p.block.Ok (scOf vars tabs lots p.locs) 3 (if wide = true then 6 else 2)
  cnt : bCnt p.block ≤ 16
  res : p.res.Ok (scOf vars tabs lots p.locs) 4
structure GaW (wide : Bool) (g : Ga) : Prop where
  vars : ∃ n, n ≤ 3 ∧ g.vars.map (·.1) = xyz.take n
  var : ∀ r ∈ g.vars, (1 ≤ r.2.1 ∧ r.2.1 ≤ 32768) ∧ 0 ≤ r.2.2 ∧ r.2.2 < r.2.1
  tabs : ∃ n, n ≤ 2 ∧ g.tabs.map (·.1) = tss.take n
  tab : ∀ r ∈ g.tabs, (1 ≤ r.2.1 ∧ r.2.1 ≤ 64) ∧ 1 ≤ r.2.2 ∧ r.2.2 ≤ 64
  lots : ∃ n, n ≤ 2 ∧ g.lots.map (·.1) = oks.take n
  lot : ∀ r ∈ g.lots, (1 ≤ r.2.1 ∧ r.2.1 ≤ 64) ∧ 1 ≤ r.2.2 ∧ r.2.2 ≤ 24
  procs : ∃ n, 1 ≤ n ∧ n ≤ 2 ∧ g.procs.map (·.name) = prs.take n
  proc : ∀ p ∈ g.procs, PrW wide g.vars g.tabs g.lots p
def spLGame (K : PySem.W.Frag) : Sp := fun vs H Q _ => ∃ (a l : Addr) (ns : List Int) (b : Int) (wide : Bool) (w : Int), vs = [.ref a, .bl wide, .int w] ∧ 1 ≤ w ∧ w ≤ 1000000 ∧ PoolB H a l ns b ∧
  ∀ (y : V) (g : Ga) (H' : Hp) (b' : Int), But a H H' → PoolB H' a l ns b' → Dp K H' y g.d → GaW wide g → Q y H'
section
variable {P : Program} {w : World} {K : PySem.W.Frag} {mg : Str → Option Value} {base : Heap} {file : Str}
theorem pick2 (wide : Bool) {vs : List V} {H : Hp} {Q : VK} {E : XK} (h : spLBl K (if wide = true then 6 else 2) vs H Q E) : spLBl K 2 vs H Q E ∨ spLBl K 6 vs H Q E := by
  cases wide
  · exact .inl h
  · exact .inr h
theorem ok_or {k : Nat} {f : Addr} {fd : FuncData} {ps : List Str} {s1 s2 : Sp} (F1 : FnOk P w K mg base CX0 k f fd ps s1) (F2 : FnOk P w K mg base CX0 k f fd ps s2) : FnOk P w K mg base CX0 k f fd ps (fun vs H Q E => s1 vs H Q E ∨ s2 vs H Q E) :=
  ⟨fun vs H Q E h => h.elim (F1.len vs H Q E) (F2.len vs H Q E), fun A outer s H args us vs Q E hr e b v h => h.elim (F1.run A outer s H args us vs Q E hr e b v) (F2.run A outer s H args us vs Q E hr e b v)⟩
theorem ok_lgame (T : Txt K mg file) : FnOk P w K mg base CX0 30 T.a_law_game T.fd_law_game ["pool", "wide", "ways"] (spLGame K) := by
  have G_law_draw : FnOk P w K mg base CX0 1 T.a_law_draw T.fd_law_draw ["pool", "size"] spDraw := ok_draw T
  have G_law_number : FnOk P w K mg base CX0 2 T.a_law_number T.fd_law_number ["pool"] spNumb := ok_numb T
  have G_law_expression : FnOk P w K mg base CX0 6 T.a_law_expression T.fd_law_expression ["pool", "scope", "deep"] (spLEx K 3) := ok_lex T 3
  have G_law_block : FnOk P w K mg base CX0 19 T.a_law_block T.fd_law_block ["pool", "scope", "room", "most"] (fun vs H Q E => spLBl K 2 vs H Q E ∨ spLBl K 6 vs H Q E) := ok_or ((ok_lbl T 2).mono (by decide)) (ok_lbl T 6)
  refine T.F_law_game.ok sc_law_game (fun vs H Q E h => ?_) (fun cdv A outer s H vs Q E hr h => ?_)
  · obtain ⟨a, l, ns, b, wide, w, rfl, _⟩ := h
    rfl
  obtain ⟨a, l, ns, b, wide, w, rfl, w0, w1, p0, q⟩ := h
  refine ⟨_, (pss_cons (ps_set (i := 3) sc_law_game.nd rfl (Or.inl rfl) (pe_disp (pps_cons pe_str (pe_lst pa_nil) (pps_cons pe_str (pe_lst pa_nil) (pps_cons pe_str (pe_lst pa_nil) (pps_cons pe_str (pe_lst pa_nil) (pps_cons pe_str (pv 2) pps_nil))))) (by rfl) (by rfl) (fun z => by cases z) (by decide)))
    (pss_cons (ps_set (i := 4) sc_law_game.nd rfl (Or.inl rfl) (pe_op op_add pe_int (pe_op op_mul pe_int (pe_callTy call_int1 (by rfl) T.z_int (by decide +kernel) (pa_cons (pv 1) pa_nil)))))
    (pss_cons (ps_for PassesOwn.never rfl (pi_range1 (by rfl) T.z_range (pa_cons (pe_call G_law_draw (hr.mono (by omega)) rfl T.g_law_draw T.k_law_draw T.b_law_draw .nil pass0 (pa_cons (pv 0) (pa_cons (pe_op op_add pe_int (pe_callTy call_int1 (by rfl) T.z_int (by decide +kernel) (pa_cons (pv 1) pa_nil))) pa_nil))) pa_nil)) (pg_name (i := 5) sc_law_game.nd rfl (Or.inl rfl))
      (pss_cons (ps_set (i := 6) sc_law_game.nd rfl (Or.inl rfl) (pe_ix ix_tup (pe_tup (pa_cons (pe_op op_add pe_int (pe_call G_law_draw (hr.mono (by omega)) rfl T.g_law_draw T.k_law_draw T.b_law_draw .nil pass0 (pa_cons (pv 0) (pa_cons pe_int pa_nil)))) (pa_cons (pe_op op_add pe_int (pe_op op_fdivW (pe_call G_law_number (hr.mono (by omega)) rfl T.g_law_number T.k_law_number T.b_law_number .nil pass0 (pa_cons (pv 0) pa_nil)) pe_int)) pa_nil))) (pe_call G_law_draw (hr.mono (by omega)) rfl T.g_law_draw T.k_law_draw T.b_law_draw .nil pass0 (pa_cons (pv 0) (pa_cons pe_int pa_nil))) (fun _ _ => rfl)))
    (pss_cons (ps_set (i := 7) sc_law_game.nd rfl (Or.inl rfl) (pe_dget (hu_of hr) (pv 3) pe_str (fun _ _ => rfl)))
    (pss_one (ps_expr (pe_bm PySem.F.plainAttrs_list PySem.F.slot_list_append PySem.F.type_list_append mt_append (pv 7) (pa_cons (pe_tup (pa_cons (pe_ix ix_str pe_str (pv 5) (fun _ _ => rfl)) (pa_cons (pv 6) (pa_cons (pe_call G_law_draw (hr.mono (by omega)) rfl T.g_law_draw T.k_law_draw T.b_law_draw .nil pass0 (pa_cons (pv 0) (pa_cons (pv 6) pa_nil))) pa_nil)))) pa_nil)))))))
    (pss_cons (ps_for PassesOwn.never rfl (pi_range1 (by rfl) T.z_range (pa_cons (pe_call G_law_draw (hr.mono (by omega)) rfl T.g_law_draw T.k_law_draw T.b_law_draw .nil pass0 (pa_cons (pv 0) (pa_cons pe_int pa_nil))) pa_nil)) (pg_name (i := 5) sc_law_game.nd rfl (Or.inl rfl))
      (pss_cons (ps_set (i := 8) sc_law_game.nd rfl (Or.inl rfl) (pe_dget (hu_of hr) (pv 3) pe_str (fun _ _ => rfl)))
    (pss_one (ps_expr (pe_bm PySem.F.plainAttrs_list PySem.F.slot_list_append PySem.F.type_list_append mt_append (pv 8) (pa_cons (pe_tup (pa_cons (pe_ix ix_str pe_str (pv 5) (fun _ _ => rfl)) (pa_cons (pe_op op_add pe_int (pe_call G_law_draw (hr.mono (by omega)) rfl T.g_law_draw T.k_law_draw T.b_law_draw .nil pass0 (pa_cons (pv 0) (pa_cons (pv 4) pa_nil)))) (pa_cons (pe_op op_add pe_int (pe_call G_law_draw (hr.mono (by omega)) rfl T.g_law_draw T.k_law_draw T.b_law_draw .nil pass0 (pa_cons (pv 0) (pa_cons (pv 4) pa_nil)))) pa_nil)))) pa_nil))))))
    (pss_cons (ps_for PassesOwn.never rfl (pi_range1 (by rfl) T.z_range (pa_cons (pe_call G_law_draw (hr.mono (by omega)) rfl T.g_law_draw T.k_law_draw T.b_law_draw .nil pass0 (pa_cons (pv 0) (pa_cons pe_int pa_nil))) pa_nil)) (pg_name (i := 5) sc_law_game.nd rfl (Or.inl rfl))
      (pss_cons (ps_set (i := 9) sc_law_game.nd rfl (Or.inl rfl) (pe_dget (hu_of hr) (pv 3) pe_str (fun _ _ => rfl)))
    (pss_one (ps_expr (pe_bm PySem.F.plainAttrs_list PySem.F.slot_list_append PySem.F.type_list_append mt_append (pv 9) (pa_cons (pe_tup (pa_cons (pe_ix ix_str pe_str (pv 5) (fun _ _ => rfl)) (pa_cons (pe_op op_add pe_int (pe_call G_law_draw (hr.mono (by omega)) rfl T.g_law_draw T.k_law_draw T.b_law_draw .nil pass0 (pa_cons (pv 0) (pa_cons (pv 4) pa_nil)))) (pa_cons (pe_op op_add pe_int (pe_call G_law_draw (hr.mono (by omega)) rfl T.g_law_draw T.k_law_draw T.b_law_draw .nil pass0 (pa_cons (pv 0) (pa_cons (pe_ix ix_tup (pe_tup (pa_cons pe_int (pa_cons pe_int (pa_cons pe_int pa_nil)))) (pe_call G_law_draw (hr.mono (by omega)) rfl T.g_law_draw T.k_law_draw T.b_law_draw .nil pass0 (pa_cons (pv 0) (pa_cons pe_int pa_nil))) (fun _ _ => rfl)) pa_nil)))) pa_nil)))) pa_nil))))))
    (pss_cons (ps_set (i := 10) sc_law_game.nd rfl (Or.inl rfl) (pe_lst pa_nil))
    (pss_cons (ps_for PassesOwn.never rfl (pi_range1 (by rfl) T.z_range (pa_cons (pe_op op_add pe_int (pe_call G_law_draw (hr.mono (by omega)) rfl T.g_law_draw T.k_law_draw T.b_law_draw .nil pass0 (pa_cons (pv 0) (pa_cons pe_int pa_nil)))) pa_nil)) (pg_name (i := 5) sc_law_game.nd rfl (Or.inl rfl))
      (pss_cons (ps_dput (hu_of hr) (pv 3) pe_str (pv 2) rfl)
    (pss_cons (ps_dput (hu_of hr) (pv 3) pe_str (pe_slice sl_list (pe_lst (pa_cons pe_str (pa_cons pe_str (pa_cons pe_str (pa_cons pe_str (pa_cons pe_str (pa_cons pe_str pa_nil))))))) po_none (po_some (pe_op op_add pe_int (pe_call G_law_draw (hr.mono (by omega)) rfl T.g_law_draw T.k_law_draw T.b_law_draw .nil pass0 (pa_cons (pv 0) (pa_cons (pe_op op_add pe_int (pe_op op_mul pe_int (pe_callTy call_int1 (by rfl) T.z_int (by decide +kernel) (pa_cons (pv 1) pa_nil)))) pa_nil)))))) rfl)
    (pss_cons (ps_asg (pe_op op_add pe_int (pe_op op_mul pe_int (pe_callTy call_int1 (by rfl) T.z_int (by decide +kernel) (pa_cons (pv 1) pa_nil)))) (pg_sub (pv 0) pe_int set_list))
    (pss_cons (ps_set (i := 11) sc_law_game.nd rfl (Or.inl rfl) (pe_call G_law_block (hr.mono (by omega)) rfl T.g_law_block T.k_law_block T.b_law_block .nil pass0 (pa_cons (pv 0) (pa_cons (pv 3) (pa_cons (pe_op op_add pe_int (pe_op op_mul pe_int (pe_callTy call_int1 (by rfl) T.z_int (by decide +kernel) (pa_cons (pv 1) pa_nil)))) (pa_cons pe_int pa_nil))))))
    (pss_cons (ps_set (i := 6) sc_law_game.nd rfl (Or.inl rfl) (pe_op op_add pe_int (pe_call G_law_draw (hr.mono (by omega)) rfl T.g_law_draw T.k_law_draw T.b_law_draw .nil pass0 (pa_cons (pv 0) (pa_cons (pe_ix ix_tup (pe_tup (pa_cons pe_int (pa_cons pe_int pa_nil))) (pe_callTy call_int1 (by rfl) T.z_int (by decide +kernel) (pa_cons (pv 1) pa_nil)) (fun _ _ => rfl)) pa_nil)))))
    (pss_cons (ps_set (i := 12) sc_law_game.nd rfl (Or.inl rfl) (pe_op op_add pe_int (pe_call G_law_draw (hr.mono (by omega)) rfl T.g_law_draw T.k_law_draw T.b_law_draw .nil pass0 (pa_cons (pv 0) (pa_cons (pe_ix ix_tup (pe_tup (pa_cons pe_int (pa_cons pe_int pa_nil))) (pe_callTy call_int1 (by rfl) T.z_int (by decide +kernel) (pa_cons (pv 1) pa_nil)) (fun _ _ => rfl)) pa_nil)))))
    (pss_one (ps_expr (pe_bm PySem.F.plainAttrs_list PySem.F.slot_list_append PySem.F.type_list_append mt_append (pv 10) (pa_cons (pe_tup (pa_cons (pe_ix ix_str pe_str (pv 5) (fun _ _ => rfl)) (pa_cons (pv 6) (pa_cons (pv 12) (pa_cons (pe_callTy call_tuple_of (by rfl) T.z_tuple (by decide +kernel) (pa_cons (pe_dget (hu_of hr) (pv 3) pe_str (fun _ _ => rfl)) pa_nil)) (pa_cons (pv 11) (pa_cons (pe_call G_law_expression (hr.mono (by omega)) rfl T.g_law_expression T.k_law_expression T.b_law_expression .nil pass0 (pa_cons (pv 0) (pa_cons (pv 3) (pa_cons pe_int pa_nil)))) pa_nil))))))) pa_nil)))))))))))
    (pss_one (ps_ret (pe_tup (pa_cons (pe_callTy call_tuple_of (by rfl) T.z_tuple (by decide +kernel) (pa_cons (pe_dget (hu_of hr) (pv 3) pe_str (fun _ _ => rfl)) pa_nil)) (pa_cons (pe_callTy call_tuple_of (by rfl) T.z_tuple (by decide +kernel) (pa_cons (pe_dget (hu_of hr) (pv 3) pe_str (fun _ _ => rfl)) pa_nil)) (pa_cons (pe_callTy call_tuple_of (by rfl) T.z_tuple (by decide +kernel) (pa_cons (pe_dget (hu_of hr) (pv 3) pe_str (fun _ _ => rfl)) pa_nil)) (pa_cons (pe_callTy call_tuple_of (by rfl) T.z_tuple (by decide +kernel) (pa_cons (pv 10) pa_nil)) pa_nil)))))))))))))), ?_⟩
  have hw : ∀ n : Int, -(2 ^ 64) < n ∧ n < 2 ^ 64 → CMul n (wI wide) := fun n h => .inl h
  refine fun sc nsc => ⟨big 0 (by decide), fun v nv => ⟨big 0 (by decide), fun t nt => ⟨big 0 (by decide), fun o no => ⟨big 0 (by decide), fun lc nlc => ?_⟩⟩⟩⟩
  have e1 : (upd H sc (.dK [])) sc = some (.dK []) := upd_same
  have s1 : Same H (upd H sc (.dK [])) := Gm.same_new nsc _
  generalize upd H sc (.dK []) = H1 at e1 s1 nv nt no nlc ⊢
  have e2 : (upd H1 v (.lst [])) v = some (.lst []) := upd_same
  have s2 : Same H1 (upd H1 v (.lst [])) := Gm.same_new nv _
  generalize upd H1 v (.lst []) = H2 at e2 s2 nt no nlc ⊢
  have e3 : (upd H2 t (.lst [])) t = some (.lst []) := upd_same
  have s3 : Same H2 (upd H2 t (.lst [])) := Gm.same_new nt _
  generalize upd H2 t (.lst []) = H3 at e3 s3 no nlc ⊢
  have e4 : (upd H3 o (.lst [])) o = some (.lst []) := upd_same
  have s4 : Same H3 (upd H3 o (.lst [])) := Gm.same_new no _
  generalize upd H3 o (.lst []) = H4 at e4 s4 nlc ⊢
  have e5 : (upd H4 lc (.lst [])) lc = some (.lst []) := upd_same
  have s5 : Same H4 (upd H4 lc (.lst [])) := Gm.same_new nlc _
  generalize upd H4 lc (.lst []) = H5 at e5 s5 ⊢
  have s15 : Same H1 H5 := s2.trans (s3.trans (s4.trans s5))
  have s05 : Same H H5 := s1.trans s15
  refine ⟨_, rfl, s15 _ _ e1, [(.inr "variables", .ref v), (.inr "tables", .ref t), (.inr "lots", .ref o), (.inr "locals", .ref lc), (.inr "ways", .int w)], rfl, by show 5 ≤ 15; decide, ?_⟩
  have b7 : ∀ x u, H5 x = some u → x ≠ sc → (upd H5 sc (.dK (mergeK [] [(.inr "variables", .ref v), (.inr "tables", .ref t), (.inr "lots", .ref o), (.inr "locals", .ref lc), (.inr "ways", .int w)]))) x = some u := fun x u e n => by rw [upd_ne n]; exact e
  have e7 : (upd H5 sc (.dK (mergeK [] [(.inr "variables", .ref v), (.inr "tables", .ref t), (.inr "lots", .ref o), (.inr "locals", .ref lc), (.inr "ways", .int w)]))) sc = some (.dK [(.inr "variables", .ref v), (.inr "tables", .ref t), (.inr "lots", .ref o), (.inr "locals", .ref lc), (.inr "ways", .int w)]) := upd_same
  generalize upd H5 sc (.dK (mergeK [] [(.inr "variables", .ref v), (.inr "tables", .ref t), (.inr "lots", .ref o), (.inr "locals", .ref lc), (.inr "ways", .int w)])) = H7 at b7 e7 ⊢
  have s07 : Same H H7 := fun x u e => b7 _ _ (s05 _ _ e) (ne_of_none e nsc)
  have nls : ∀ {x : Addr} {xs : List V}, H7 x = some (.lst xs) → x ≠ sc := fun {x xs} e z => by rw [z, e7] at e; cases e
  have nvs : v ≠ sc := (ne_of_none e1 nv).symm
  have nts : t ≠ sc := (ne_of_none (s2 _ _ e1) nt).symm
  have nos : o ≠ sc := (ne_of_none (s3 _ _ (s2 _ _ e1)) no).symm
  have ncs : lc ≠ sc := (ne_of_none (s4 _ _ (s3 _ _ (s2 _ _ e1))) nlc).symm
  have hnone : ∀ {x : Addr} {u : HO}, H x = some u → x ≠ sc ∧ x ≠ v ∧ x ≠ t ∧ x ≠ o ∧ x ≠ lc := fun {x u} e => ⟨ne_of_none e nsc, ne_of_none (s1 _ _ e) nv, ne_of_none (s2 _ _ (s1 _ _ e)) nt, ne_of_none (s3 _ _ (s2 _ _ (s1 _ _ e))) no, ne_of_none (s4 _ _ (s3 _ _ (s2 _ _ (s1 _ _ e)))) nlc⟩
  have B0 : GB K H7 a l ns b sc v t o lc [] [] [] [] w := by
    obtain ⟨q1, q2, q3, q4, ea, el, n1, n2⟩ := id p0
    have xa := hnone ea
    have xl := hnone el
    have xv : v ≠ t ∧ v ≠ o ∧ v ≠ lc := ⟨ne_of_none e2 nt, ne_of_none (s3 _ _ e2) no, ne_of_none (s4 _ _ (s3 _ _ e2)) nlc⟩
    have xt : t ≠ o ∧ t ≠ lc := ⟨ne_of_none e3 no, ne_of_none (s4 _ _ e3) nlc⟩
    have xo : o ≠ lc := ne_of_none e4 nlc
    exact ⟨p0.same s07, ⟨e7, ⟨[], b7 _ _ (s5 _ _ (s4 _ _ (s3 _ _ e2))) nvs, .nil⟩, ⟨[], b7 _ _ (s5 _ _ (s4 _ _ e3)) nts, .nil⟩, ⟨[], b7 _ _ (s5 _ _ e4) nos, .nil⟩, b7 _ _ e5 ncs⟩, ⟨xa.1.symm, xa.2.1.symm, xa.2.2.1.symm, xa.2.2.2.1.symm, xa.2.2.2.2.symm⟩, ⟨xl.2.1, xl.2.2.1, xl.2.2.2.1, xv.1, xv.2.1, xv.2.2, xt.1, xt.2, xo⟩⟩
  have hv0 : H v = none := none_of_same s1 nv
  have ht0 : H t = none := none_of_same s1 (none_of_same s2 nt)
  have ho0 : H o = none := none_of_same s1 (none_of_same s2 (none_of_same s3 no))
  clear s1 s2 s3 s4 s5 s15 s05 b7 e1 e2 e3 e4 e5 e7 nvs nts nos ncs nv nt no nlc nls p0
  -- upper
  refine ⟨_, rfl, .inr ⟨wide, rfl, _, _, rfl, rfl, hw 60 (by decide), _, _, rfl, rfl, ?_⟩⟩
  have up0 : 4 ≤ 4 + 60 * wI wide ∧ 4 + 60 * wI wide ≤ 64 := by cases wide <;> decide
  show tSeq _ _ _ (List.set _ 4 (some (V.int (4 + 60 * wI wide)))) _
  generalize 4 + 60 * wI wide = up at up0 ⊢
  -- variables
  refine ⟨_, rfl, _, rfl, .inr ⟨wide, rfl, _, _, rfl, rfl, a, l, ns, b, _, rfl, B0.p, by cases wide <;> decide, by cases wide <;> decide, fun r H8 r0 r1 b8 p8 => ?_⟩⟩
  have B8 := B0.but b8 p8
  have bH8 : But a H H8 := (But.same s07).trans b8
  have r1 : r < 4 := by
    have : (3 : Int) + (if wide = true then 1 else 0) ≤ 4 := by cases wide <;> decide
    exact Int.lt_of_lt_of_le r1 this
  obtain ⟨n, rfl⟩ : ∃ n : Nat, r = (n : Int) := ⟨r.toNat, by omega⟩
  refine ⟨_, rfl, by omega, by omega, ?_⟩
  rw [show ((n : Nat) : Int).toNat = n by omega]
  clear B0 b8 p8
  have stay : ∀ {H1 H2 : Hp} {x : Addr} {u : HO}, H x = none → But a H H1 → H2 = upd H1 x u → But a H H2 := fun {H1 H2 x u} hx bt e y o' ey n => by
    rw [e, upd_ne (ne_of_none ey hx)]
    exact bt _ _ ey n
  refine for_range (lo := 0) (n := n) (fun i σ H' => ∃ (vars : List Row) (y5 y6 y7 : Option V), σ = [some (.ref a), some (.bl wide), some (.int w), some (.ref sc), some (.int up), y5, y6, y7, none, none, none, none, none] ∧ But a H H' ∧ GB K H' a l ns b sc v t o lc vars [] [] [] w ∧ vars.map (·.1) = xyz.take i ∧
    ∀ r ∈ vars, (1 ≤ r.2.1 ∧ r.2.1 ≤ 32768) ∧ 0 ≤ r.2.2 ∧ r.2.2 < r.2.1) ⟨[], none, none, none, rfl, bH8, B8, rfl, fun r hr => nomatch hr⟩ ?_ ?_
  · rintro i σ H1 hi ⟨vars, y5, y6, y7, rfl, bH, B1, en, hb⟩
    obtain ⟨c, hc, hx⟩ := xyz_at i (by omega)
    refine ⟨_, rfl, a, l, ns, b, 4, rfl, B1.p, by decide, by decide, fun g1 H2 g10 g11 b2 p2 => ⟨_, _, rfl, rfl, ?_⟩⟩
    refine ⟨_, rfl, a, l, ns, b, rfl, p2, fun g2 H3 g20 g21 b3 p3 => ⟨_, _, rfl, rfl, wide_div (b := 10) (by decide) (by decide) (by decide) (by decide), _, _, rfl, rfl, big 2 (by decide), fun t1 ht1 => ?_⟩⟩
    have m3 := same_new ht1 (.tup [V.int (1 + g1), V.int (1 + g2 / 2)])
    have q3 := p3.ne ht1
    refine ⟨_, rfl, a, l, ns, b, 2, rfl, p3.same m3, by decide, by decide, fun g3 H4 g30 g31 b4 p4 => ?_⟩
    have b14 : But a H1 H4 := b2.trans (b3.trans ((But.same m3).trans b4))
    obtain ⟨sz, esz, sz0, sz1⟩ : ∃ sz : Int, atI [V.int (1 + g1), V.int (1 + g2 / 2)] g3 = some (.int sz) ∧ 1 ≤ sz ∧ sz ≤ 32768 := by
      obtain ⟨m, rfl⟩ : ∃ m : Nat, g3 = (m : Int) := ⟨g3.toNat, by omega⟩
      match m, g31 with
      | 0, _ => exact ⟨1 + g1, atI_nat (j := 0) rfl, by omega, by omega⟩
      | 1, _ => exact ⟨1 + g2 / 2, atI_nat (j := 1) rfl, by omega, by omega⟩
    refine ⟨t1, _, _, _, rfl, rfl, SqT.of (b4 _ _ upd_same q3.1), esz, ?_⟩
    have B4 := B1.but b14 p4
    refine ⟨_, rfl, sc, _, rfl, DGet.k (k := .inr "variables") B4.s.d, ?_⟩
    obtain ⟨xs, ex, dx⟩ := B4.s.v
    have lx : xs.length = vars.length := by rw [DpAll.len dx, List.length_map]
    have lv : vars.length ≤ 3 := by
      have := congrArg List.length en
      rw [List.length_map, List.length_take] at this
      have h3 : xyz.length = 3 := rfl
      omega
    refine ⟨_, rfl, .inl ⟨rfl, _, SqL.of ex⟩, _, rfl, "xyz", _, c, rfl, rfl, by decide +kernel, (by rw [Int.zero_add]; exact atI_nat hc), _, rfl, _, rfl, _, rfl, a, l, ns, b, sz, rfl, p4, by omega, by omega, fun g5 H5 g50 g51 b5 p5 => ⟨big 3 (by decide), fun tr htr => ?_⟩⟩
    have m5 := same_new htr (.tup [V.str (⟨#[c]⟩ : Str), V.int sz, V.int g5])
    have b6 := b5.trans (But.same m5)
    have B6 := (B4.but b5 p5).same m5
    have ex6 := b6 _ _ ex B4.n.v
    have d6 : Dp K _ (.ref tr) (trip ((⟨#[c]⟩ : Str), sz, g5)) := dp_tup htr (.cons (.str _) (.cons (.int _) (.cons (.int _) .nil)))
    refine ⟨v, _, _, rfl, rfl, ex6, big' _ (by omega), vars ++ [((⟨#[c]⟩ : Str), sz, g5)], _, _, _, rfl, stay hv0 (bH.trans (b14.trans b6)) rfl, B6.addV ex6 d6 (dps_tups (B4.tup b6) dx), ?_, fun r hr => ?_⟩
    · rw [List.map_append, en, take_more hx]
      rfl
    · rcases List.mem_append.mp hr with hr | hr
      · exact hb r hr
      · rw [List.mem_singleton.mp hr]
        exact ⟨⟨sz0, sz1⟩, g50, g51⟩
  rintro σ H8' ⟨vars, y5, y6, y7, rfl, bHv, Bv, env, hbv⟩
  have hvar : ∃ n, n ≤ 3 ∧ vars.map (·.1) = xyz.take n := ⟨n, by omega, env⟩
  clear bH8 B8 r0 r1 env
  -- tables
  refine ⟨_, rfl, a, l, ns, b, 3, rfl, Bv.p, by decide, by decide, fun r H9 r0 r1 b9 p9 => ?_⟩
  obtain ⟨n, rfl⟩ : ∃ n : Nat, r = (n : Int) := ⟨r.toNat, by omega⟩
  refine ⟨_, rfl, by omega, by omega, ?_⟩
  rw [show ((n : Nat) : Int).toNat = n by omega]
  refine for_range (lo := 0) (n := n) (fun i σ H' => ∃ (tabs : List Row) (y5 y8 : Option V), σ = [some (.ref a), some (.bl wide), some (.int w), some (.ref sc), some (.int up), y5, y6, y7, y8, none, none, none, none] ∧ But a H H' ∧ GB K H' a l ns b sc v t o lc vars tabs [] [] w ∧ tabs.map (·.1) = tss.take i ∧
    ∀ r ∈ tabs, (1 ≤ r.2.1 ∧ r.2.1 ≤ 64) ∧ 1 ≤ r.2.2 ∧ r.2.2 ≤ 64) ⟨[], y5, none, rfl, bHv.trans b9, Bv.but b9 p9, rfl, fun r hr => nomatch hr⟩ ?_ ?_
  · rintro i σ H1 hi ⟨tabs, y5, y8, rfl, bH, B1, en, hb⟩
    obtain ⟨c, hc, hx⟩ := tss_at i (by omega)
    refine ⟨_, rfl, sc, _, rfl, DGet.k (k := .inr "tables") B1.s.d, ?_⟩
    obtain ⟨xs, ex, dx⟩ := B1.s.t
    have lx : xs.length = tabs.length := by rw [DpAll.len dx, List.length_map]
    have lv : tabs.length ≤ 2 := by
      have := congrArg List.length en
      rw [List.length_map, List.length_take] at this
      have h3 : tss.length = 2 := rfl
      omega
    refine ⟨_, rfl, .inl ⟨rfl, _, SqL.of ex⟩, _, rfl, "ts", _, c, rfl, rfl, by decide +kernel, (by rw [Int.zero_add]; exact atI_nat hc), _, rfl, _, rfl, a, l, ns, b, up, rfl, B1.p, by omega, by omega, fun g4 H4 g40 g41 b4 p4 => ⟨_, _, rfl, rfl, ?_⟩⟩
    refine ⟨_, rfl, _, rfl, a, l, ns, b, up, rfl, p4, by omega, by omega, fun g5 H5 g50 g51 b5 p5 => ⟨_, _, rfl, rfl, big 3 (by decide), fun tr htr => ?_⟩⟩
    have m5 := same_new htr (.tup [V.str (⟨#[c]⟩ : Str), V.int (1 + g4), V.int (1 + g5)])
    have b6 := b4.trans (b5.trans (But.same m5))
    have B6 := (B1.but (b4.trans b5) p5).same m5
    have ex6 := b6 _ _ ex B1.n.t
    have d6 : Dp K _ (.ref tr) (trip ((⟨#[c]⟩ : Str), 1 + g4, 1 + g5)) := dp_tup htr (.cons (.str _) (.cons (.int _) (.cons (.int _) .nil)))
    refine ⟨t, _, _, rfl, rfl, ex6, big' _ (by omega), tabs ++ [((⟨#[c]⟩ : Str), 1 + g4, 1 + g5)], _, _, rfl, stay ht0 (bH.trans b6) rfl, B6.addT ex6 d6 (dps_tups (B1.tup b6) dx), ?_, fun r hr => ?_⟩
    · rw [List.map_append, en, take_more hx]
      rfl
    · rcases List.mem_append.mp hr with hr | hr
      · exact hb r hr
      · rw [List.mem_singleton.mp hr]
        exact ⟨⟨by show 1 ≤ 1 + g4; omega, by show 1 + g4 ≤ 64; omega⟩, by show 1 ≤ 1 + g5; omega, by show 1 + g5 ≤ 64; omega⟩
  rintro σ H9' ⟨tabs, y5, y8, rfl, bHt, Bt, ent, hbt⟩
  have htab : ∃ n, n ≤ 2 ∧ tabs.map (·.1) = tss.take n := ⟨n, by omega, ent⟩
  clear b9 p9 r0 r1 ent bHv Bv
  -- lots
  refine ⟨_, rfl, a, l, ns, b, 3, rfl, Bt.p, by decide, by decide, fun r H9 r0 r1 b9 p9 => ?_⟩
  obtain ⟨n, rfl⟩ : ∃ n : Nat, r = (n : Int) := ⟨r.toNat, by omega⟩
  refine ⟨_, rfl, by omega, by omega, ?_⟩
  rw [show ((n : Nat) : Int).toNat = n by omega]
  refine for_range (lo := 0) (n := n) (fun i σ H' => ∃ (lots : List Row) (y5 y9 : Option V), σ = [some (.ref a), some (.bl wide), some (.int w), some (.ref sc), some (.int up), y5, y6, y7, y8, y9, none, none, none] ∧ But a H H' ∧ GB K H' a l ns b sc v t o lc vars tabs lots [] w ∧ lots.map (·.1) = oks.take i ∧
    ∀ r ∈ lots, (1 ≤ r.2.1 ∧ r.2.1 ≤ 64) ∧ 1 ≤ r.2.2 ∧ r.2.2 ≤ 24) ⟨[], y5, none, rfl, bHt.trans b9, Bt.but b9 p9, rfl, fun r hr => nomatch hr⟩ ?_ ?_
  · rintro i σ H1 hi ⟨lots, y5, y9, rfl, bH, B1, en, hb⟩
    obtain ⟨c, hc, hx⟩ := oks_at i (by omega)
    refine ⟨_, rfl, sc, _, rfl, DGet.k (k := .inr "lots") B1.s.d, ?_⟩
    obtain ⟨xs, ex, dx⟩ := B1.s.o
    have lx : xs.length = lots.length := by rw [DpAll.len dx, List.length_map]
    have lv : lots.length ≤ 2 := by
      have := congrArg List.length en
      rw [List.length_map, List.length_take] at this
      have h3 : oks.length = 2 := rfl
      omega
    refine ⟨_, rfl, .inl ⟨rfl, _, SqL.of ex⟩, _, rfl, "ok", _, c, rfl, rfl, by decide +kernel, (by rw [Int.zero_add]; exact atI_nat hc), _, rfl, _, rfl, a, l, ns, b, up, rfl, B1.p, by omega, by omega, fun g4 H4 g40 g41 b4 p4 => ⟨_, _, rfl, rfl, ?_⟩⟩
    refine ⟨_, rfl, big 3 (by decide), fun td htd => ?_⟩
    have md := same_new htd (.tup [V.int 3, V.int 3, V.int 24])
    have qd := p4.ne htd
    refine ⟨_, rfl, a, l, ns, b, 3, rfl, p4.same md, by decide, by decide, fun rd Hd rd0 rd1 bd pd => ?_⟩
    obtain ⟨u, eu, u0, u1⟩ : ∃ u : Int, atI [V.int 3, V.int 3, V.int 24] rd = some (.int u) ∧ 1 ≤ u ∧ u ≤ 24 := by
      obtain ⟨m, rfl⟩ : ∃ m : Nat, rd = (m : Int) := ⟨rd.toNat, by omega⟩
      match m, rd1 with
      | 0, _ => exact ⟨3, atI_nat (j := 0) rfl, by decide, by decide⟩
      | 1, _ => exact ⟨3, atI_nat (j := 1) rfl, by decide, by decide⟩
      | 2, _ => exact ⟨24, atI_nat (j := 2) rfl, by decide, by decide⟩
    refine ⟨td, _, _, _, rfl, rfl, SqT.of (bd _ _ upd_same qd.1), eu, a, l, ns, b, u, rfl, pd, by omega, by omega, fun g5 H5 g50 g51 b5 p5 => ⟨_, _, rfl, rfl, big 3 (by decide), fun tr htr => ?_⟩⟩
    have b4 := b4.trans ((But.same md).trans bd)
    have m5 := same_new htr (.tup [V.str (⟨#[c]⟩ : Str), V.int (1 + g4), V.int (1 + g5)])
    have b6 := b4.trans (b5.trans (But.same m5))
    have B6 := (B1.but (b4.trans b5) p5).same m5
    have ex6 := b6 _ _ ex B1.n.o
    have d6 : Dp K _ (.ref tr) (trip ((⟨#[c]⟩ : Str), 1 + g4, 1 + g5)) := dp_tup htr (.cons (.str _) (.cons (.int _) (.cons (.int _) .nil)))
    refine ⟨o, _, _, rfl, rfl, ex6, big' _ (by omega), lots ++ [((⟨#[c]⟩ : Str), 1 + g4, 1 + g5)], _, _, rfl, stay ho0 (bH.trans b6) rfl, B6.addO ex6 d6 (dps_tups (B1.tup b6) dx), ?_, fun r hr => ?_⟩
    · rw [List.map_append, en, take_more hx]
      rfl
    · rcases List.mem_append.mp hr with hr | hr
      · exact hb r hr
      · rw [List.mem_singleton.mp hr]
        exact ⟨⟨by show 1 ≤ 1 + g4; omega, by show 1 + g4 ≤ 64; omega⟩, by show 1 ≤ 1 + g5; omega, by show 1 + g5 ≤ 24; omega⟩
  rintro σ H9' ⟨lots, y5, y9, rfl, bHo, Bo, eno, hbo⟩
  have hlot : ∃ n, n ≤ 2 ∧ lots.map (·.1) = oks.take n := ⟨n, by omega, eno⟩
  clear b9 p9 r0 r1 eno bHt Bt
  -- procedures
  refine ⟨big 0 (by decide), fun PL hPL => ?_⟩
  have nPL := Bo.nb hPL
  have mPL := same_new hPL (.lst [])
  have hPL0 : H PL = none := by
    cases e : H PL with
    | none => rfl
    | some u =>
      rw [bHo _ _ e nPL.a] at hPL
      cases hPL
  have Bp := Bo.same mPL
  have bHp := bHo.trans (But.same mPL)
  have eP : (upd H9' PL (.lst [])) PL = some (.lst []) := upd_same
  generalize upd H9' PL (.lst []) = Hp0 at mPL Bp bHp eP ⊢
  refine ⟨_, rfl, a, l, ns, b, 2, rfl, Bp.p, by decide, by decide, fun r H9 r0 r1 b9 p9 => ⟨_, _, rfl, rfl, ?_⟩⟩
  obtain ⟨n, en⟩ : ∃ n : Nat, 1 + r = (n : Int) := ⟨(1 + r).toNat, by omega⟩
  refine ⟨_, rfl, by omega, by omega, ?_⟩
  rw [show (1 + r).toNat = n by omega]
  have hn : 1 ≤ n ∧ n ≤ 2 := by omega
  refine for_range (lo := 0) (n := n) (fun i σ H' => ∃ (b' w' : Int) (lc : Addr) (locs : List Str) (ys : List V) (ps : List Pr) (y5 y6 y11 y12 : Option V), σ = [some (.ref a), some (.bl wide), some (.int w), some (.ref sc), some (.int up), y5, y6, y7, y8, y9, some (.ref PL), y11, y12] ∧ But a H H' ∧ GB K H' a l ns b' sc v t o lc vars tabs lots locs w' ∧
    NB PL a l sc v t o lc ∧ H' PL = some (.lst ys) ∧ DpAll K H' ys (ps.map Pr.d) ∧ ps.map (·.name) = prs.take i ∧ ∀ p ∈ ps, PrW wide vars tabs lots p) ⟨b, w, lc, [], [], [], y5, y6, none, none, rfl, bHp.trans b9, Bp.but b9 p9, nPL, b9 _ _ eP nPL.a, .nil, rfl, fun p hp => nomatch hp⟩ ?_ ?_
  · rintro i σ H1 hi ⟨b', w', lc, locs, ys, ps, y5, y6, y11, y12, rfl, bH, B1, nP, eP, dP, enP, hP⟩
    obtain ⟨c, hc, hx⟩ := prs_at i (by omega)
    have lps : ys.length = ps.length := by rw [DpAll.len dP, List.length_map]
    have lp2 : ps.length ≤ 2 := by
      have := congrArg List.length enP
      rw [List.length_map, List.length_take] at this
      have h3 : prs.length = 2 := rfl
      omega
    have hsc0 : H sc = none := by
      cases z : H sc with
      | none => rfl
      | some u => exact absurd rfl (ne_of_none z nsc)
    have two : ∀ {H1 H2 : Hp}, But a H H1 → But2 a sc H1 H2 → But a H H2 := fun {H1 H2} x y z u e n => y z u (x z u e n) n (ne_of_none e hsc0)
    -- ways
    refine ⟨_, rfl, _, rfl, sc, _, rfl, DPut.k (k := .inr "ways") B1.s.d (by show 5 < sizeLine; decide), ?_⟩
    have B2 := B1.ways (w' := w)
    have bs2 : But2 a sc H1 (upd H1 sc (.dK (putK [(.inr "variables", .ref v), (.inr "tables", .ref t), (.inr "lots", .ref o), (.inr "locals", .ref lc), (.inr "ways", .int w')] (.inr "ways") (.int w)))) := fun x u ex _ n => by rw [upd_ne n]; exact ex
    have eP2 := bs2 _ _ eP nP.a nP.sc
    have tp2 : Tups H1 _ := Tups.dK (o := .dK (putK [(.inr "variables", .ref v), (.inr "tables", .ref t), (.inr "lots", .ref o), (.inr "locals", .ref lc), (.inr "ways", .int w')] (.inr "ways") (.int w))) B1.s.d
    have dP2 := dp_tupsAll tp2 _ _ (nolAll_procs ps) dP
    have bH2 := two bH bs2
    revert B2 eP2 dP2 bH2
    clear bs2 tp2 eP dP bH
    show _ → _ → _ → _ → tSeq _ _ _ _ (upd H1 sc (.dK (putK [(.inr "variables", .ref v), (.inr "tables", .ref t), (.inr "lots", .ref o), (.inr "locals", .ref lc), (.inr "ways", .int w')] (.inr "ways") (.int w))))
    generalize upd H1 sc (.dK (putK [(.inr "variables", .ref v), (.inr "tables", .ref t), (.inr "lots", .ref o), (.inr "locals", .ref lc), (.inr "ways", .int w')] (.inr "ways") (.int w))) = H2
    intro B2 eP2 dP2 bH2
    clear B1
    -- locals
    refine ⟨big 6 (by decide), fun g1 hg1 => ?_⟩
    have m1 := same_new hg1 (.lst ([V.str "g", V.str "a", V.str "b", V.str "c", V.str "d", V.str "e"] : List V))
    have B3 := B2.same m1
    have q1 := B2.p.ne hg1
    refine ⟨_, rfl, _, rfl, .inr ⟨wide, rfl, _, _, rfl, rfl, hw 4 (by decide), _, _, rfl, rfl, a, l, ns, b', _, rfl, B3.p, by cases wide <;> decide, by cases wide <;> decide, fun r4 H4 r40 r41 b4 p4 => ?_⟩⟩
    have r41 : r4 < 5 := Int.lt_of_lt_of_le r41 (by cases wide <;> decide)
    have B4 := B3.but b4 p4
    refine ⟨_, _, rfl, rfl, _, rfl, g1, _, rfl, SqL.of (b4 _ _ upd_same q1.1), fun g2 hg2 => ?_⟩
    obtain ⟨m, em⟩ : ∃ m : Nat, 2 + r4 = (m : Int) := ⟨(2 + r4).toNat, by omega⟩
    have hcut : cutV ([V.str "g", V.str "a", V.str "b", V.str "c", V.str "d", V.str "e"] : List V) none (some (2 + r4)) = (gab.take m).map V.str := by
      rw [em, cut_take, List.map_take]
      rfl
    have hm : 2 ≤ m ∧ m ≤ 6 := by omega
    have m5 := same_new hg2 (.lst (cutV ([V.str "g", V.str "a", V.str "b", V.str "c", V.str "d", V.str "e"] : List V) none (some (2 + r4))))
    have e5 : (upd H4 g2 (.lst (cutV ([V.str "g", V.str "a", V.str "b", V.str "c", V.str "d", V.str "e"] : List V) none (some (2 + r4))))) g2 = some (.lst ((gab.take m).map V.str)) := by rw [upd_same, hcut]
    have B5 := B4.same m5
    have nb5 := B4.nb hg2
    have eP4 := b4 _ _ (m1 _ _ eP2) nP.a
    have nPg : PL ≠ g2 := ne_of_none eP4 hg2
    have eP5 := m5 _ _ eP4
    have dP5 := dp_monoAll m5 _ _ (dp_tupsAll (B3.tup b4) _ _ (nolAll_procs ps) (dp_monoAll m1 _ _ dP2))
    have bH5 := bH2.trans ((But.same m1).trans (b4.trans (But.same m5)))
    clear m1 b4 p4 B2 B3 eP4 eP2 dP2 bH2 q1
    generalize upd H4 g2 (.lst (cutV ([V.str "g", V.str "a", V.str "b", V.str "c", V.str "d", V.str "e"] : List V) none (some (2 + r4)))) = H5 at e5 B5 eP5 dP5 bH5 m5 ⊢
    refine ⟨_, rfl, sc, _, rfl, DPut.k (k := .inr "locals") B5.s.d (by show 5 < sizeLine; decide), ?_⟩
    have B6 := B5.newLocs e5 nb5.a (nb5.neL B5.d)
    have bs6 : But2 a sc H5 (upd H5 sc (.dK (putK [(.inr "variables", .ref v), (.inr "tables", .ref t), (.inr "lots", .ref o), (.inr "locals", .ref lc), (.inr "ways", .int w)] (.inr "locals") (.ref g2)))) := fun x u ex _ n => by rw [upd_ne n]; exact ex
    have eP6 := bs6 _ _ eP5 nP.a nP.sc
    have tp6 : Tups H5 _ := Tups.dK (o := .dK (putK [(.inr "variables", .ref v), (.inr "tables", .ref t), (.inr "lots", .ref o), (.inr "locals", .ref lc), (.inr "ways", .int w)] (.inr "locals") (.ref g2))) B5.s.d
    have dP6 := dp_tupsAll tp6 _ _ (nolAll_procs ps) dP5
    have bH6 := two bH5 bs6
    have nP6 : NB PL a l sc v t o g2 := { nP with lc := nPg }
    revert B6 eP6 dP6 bH6
    clear bs6 tp6 eP5 dP5 bH5
    show _ → _ → _ → _ → tSeq _ _ _ _ (upd H5 sc (.dK (putK [(.inr "variables", .ref v), (.inr "tables", .ref t), (.inr "lots", .ref o), (.inr "locals", .ref lc), (.inr "ways", .int w)] (.inr "locals") (.ref g2))))
    generalize upd H5 sc (.dK (putK [(.inr "variables", .ref v), (.inr "tables", .ref t), (.inr "lots", .ref o), (.inr "locals", .ref lc), (.inr "ways", .int w)] (.inr "locals") (.ref g2))) = H6
    intro B6 eP6 dP6 bH6
    have nb5d := B6.d
    clear B4 B5 e5 m5
    -- what may be spent
    obtain ⟨zs, ez, lz, B7⟩ := B6.spend (8 + 8 * wI wide)
    refine ⟨_, rfl, .inr ⟨wide, rfl, _, _, rfl, rfl, hw 8 (by decide), _, _, rfl, rfl, _, rfl, a, zs, 5, 5, rfl, rfl, ez, by rw [lz]; rfl, ?_⟩⟩
    have bs7 : But a H6 (upd H6 a (.lst (zs.set 5 (.int (8 + 8 * wI wide))))) := fun x u ex n => by rw [upd_ne n]; exact ex
    have eP7 := bs7 _ _ eP6 nP.a
    have dP7 := dp_tupsAll (B6.tup bs7) _ _ (nolAll_procs ps) dP6
    have bH7 := bH6.trans bs7
    revert B7 eP7 dP7 bH7
    clear bs7 eP6 dP6 bH6 B6 ez
    show _ → _ → _ → _ → tSeq _ _ _ _ (upd H6 a (.lst (zs.set 5 (.int (8 + 8 * wI wide)))))
    generalize upd H6 a (.lst (zs.set 5 (.int (8 + 8 * wI wide)))) = H7
    intro B7 eP7 dP7 bH7
    have G7 : GA K H7 a l ns (8 + 8 * wI wide) sc v t o g2 vars tabs lots (gab.take m) w := by
      obtain ⟨n1, h1, h2⟩ := hvar
      obtain ⟨n2, h3, h4⟩ := htab
      obtain ⟨n3, h5, h6⟩ := hlot
      have k1 := congrArg List.length h2
      have k2 := congrArg List.length h4
      have k3 := congrArg List.length h6
      rw [List.length_map, List.length_take] at k1 k2 k3
      have lg : gab.length = 6 := rfl
      refine ⟨B7.p, B7.s, B7.n, ⟨by omega, by omega, by omega, by rw [List.length_take]; omega, by rw [List.length_take]; omega, w0, w1, fun r hr => ?_⟩⟩
      have := (hbo r hr).2
      omega
    -- the block
    have hb16 : (8 + 8 * wI wide).toNat ≤ 16 := by cases wide <;> decide
    refine ⟨_, rfl, _, rfl, _, rfl, .inr ⟨wide, rfl, _, _, rfl, rfl, hw 4 (by decide), _, _, rfl, rfl, pick2 wide ?_⟩⟩
    refine ⟨a, l, ns, _, sc, v, t, o, g2, vars, tabs, lots, gab.take m, w, 6, by cases wide <;> rfl, by decide, by decide, G7, fun yb xb H8 b8 w8 bb8 G8 d8 o8 c8 _ => ?_⟩
    have eP8 := bb8 _ _ eP7 nP.a nP.sc
    have dP8 := dp_tupsAll (G7.tup2 bb8) _ _ (nolAll_procs ps) dP7
    have bH8 := two bH7 bb8
    clear eP7 dP7 bH7 B7 bb8
    -- size
    refine ⟨_, rfl, big 2 (by decide), fun t1 ht1 => ⟨_, rfl, .inr ⟨wide, rfl, ?_⟩⟩⟩
    obtain ⟨u1, eu1, u10, u11⟩ : ∃ u1 : Int, atI [V.int 3, V.int 64] (if wide = true then 1 else 0) = some (.int u1) ∧ 1 ≤ u1 ∧ u1 ≤ 64 := by
      cases wide
      · exact ⟨3, rfl, by decide, by decide⟩
      · exact ⟨64, rfl, by decide, by decide⟩
    have m1 := same_new ht1 (.tup [V.int 3, V.int 64])
    refine ⟨t1, _, _, _, rfl, rfl, SqT.of upd_same, eu1, a, l, ns, b8, u1, rfl, G8.p.same m1, by omega, by omega, fun r9 H9 r90 r91 b9 p9 => ⟨_, _, rfl, rfl, ?_⟩⟩
    have b89 := (But.same m1).trans b9
    have G9 := G8.but b89 p9
    -- answers
    refine ⟨_, rfl, big 2 (by decide), fun t2 ht2 => ⟨_, rfl, .inr ⟨wide, rfl, ?_⟩⟩⟩
    obtain ⟨u2, eu2, u20, u21⟩ : ∃ u2 : Int, atI [V.int 2, V.int 63] (if wide = true then 1 else 0) = some (.int u2) ∧ 1 ≤ u2 ∧ u2 ≤ 63 := by
      cases wide
      · exact ⟨2, rfl, by decide, by decide⟩
      · exact ⟨63, rfl, by decide, by decide⟩
    have m2 := same_new ht2 (.tup [V.int 2, V.int 63])
    refine ⟨t2, _, _, _, rfl, rfl, SqT.of upd_same, eu2, a, l, ns, b8, u2, rfl, p9.same m2, by omega, by omega, fun r10 H10 r100 r101 b10 p10 => ⟨_, _, rfl, rfl, ?_⟩⟩
    have b910 := (But.same m2).trans b10
    have G10 := G9.but b910 p10
    have b810 := b89.trans b910
    have eP10 := b810 _ _ eP8 nP.a
    have d10 := dp_tups (G8.tup b810) xb.d _ (Blk.nol xb) d8
    have dP10 := dp_tupsAll (G8.tup b810) _ _ (nolAll_procs ps) dP8
    have bH10 := bH8.trans b810
    clear eP8 d8 dP8 bH8 b810 b89 b910 b9 b10 m1 m2 p9 G9 ht1 ht2
    refine ⟨_, rfl, .inl ⟨rfl, _, SqL.of eP10⟩, _, rfl, "pr", _, c, rfl, rfl, by decide +kernel, (by rw [Int.zero_add]; exact atI_nat hc), _, rfl, _, rfl, _, rfl, sc, _, rfl, DGet.k (k := .inr "locals") G10.s.d, g2, _, rfl, .inl ⟨SqL.of G10.s.l, fun tl htl => ?_⟩⟩
    have m3 := same_new htl (.tup ((gab.take m).map V.str))
    have dl : Dp K _ (.ref tl) (strD (gab.take m)) := dp_tup htl (strs_dp _)
    have G11 := G10.same m3
    refine ⟨_, rfl, _, rfl, _, rfl, a, l, ns, b8, sc, v, t, o, g2, vars, tabs, lots, gab.take m, w8, rfl, G11, fun ye xe H12 b12 p12 d12 o12 => ?_⟩
    have G12 := G11.but b12 p12
    have dl12 := dp_tups (G11.tup b12) (strD (gab.take m)) _ (nolAll_strs _) dl
    have db12 := dp_tups ((Tups.of m3).trans (G11.tup b12)) xb.d _ (Blk.nol xb) d10
    refine ⟨big 6 (by decide), fun tp htp => ?_⟩
    have m4 := same_new htp (.tup [V.str (⟨#[c]⟩ : Str), V.int (1 + r9), V.int (2 + r10), V.ref tl, yb, ye])
    have b1013 := (But.same m3).trans (b12.trans (But.same m4))
    have G13 := G12.same m4
    have eP13 := b1013 _ _ eP10 nP.a
    have dP13 := dp_tupsAll (G10.tup b1013) _ _ (nolAll_procs ps) dP10
    have dp13 : Dp K _ (.ref tp) (Pr.d ⟨(⟨#[c]⟩ : Str), 1 + r9, 2 + r10, gab.take m, xb, xe⟩) := dp_tup htp (.cons (.str _) (.cons (.int _) (.cons (.int _) (.cons dl12 (.cons db12 (.cons d12 .nil))))))
    have bH13 := bH10.trans b1013
    refine ⟨PL, _, _, rfl, rfl, eP13, big' _ (by omega), b8, w8, g2, gab.take m, ys ++ [V.ref tp], ps ++ [⟨(⟨#[c]⟩ : Str), 1 + r9, 2 + r10, gab.take m, xb, xe⟩], _, _, _, _, rfl, stay hPL0 bH13 rfl, (GB.mk G13.p G13.s G13.n (nb5d)).updB nP6 eP13, nP6, upd_same, ?_, ?_, fun p hp => ?_⟩
    · rw [List.map_append]
      have tq : Tups _ _ := Tups.lst (o := .lst (ys ++ [V.ref tp])) eP13
      exact DpAll.app (dp_tupsAll tq _ _ (nolAll_procs ps) dP13) (.cons (dp_tups tq _ _ (Pr.nol _) dp13) .nil)
    · rw [List.map_append, enP, take_more hx]
      rfl
    · rcases List.mem_append.mp hp with hp | hp
      · exact hP p hp
      · rw [List.mem_singleton.mp hp]
        exact ⟨⟨by show 1 ≤ 1 + r9; omega, by show 1 + r9 ≤ 64; omega⟩, ⟨by show 2 ≤ 2 + r10; omega, by show 2 + r10 ≤ 64; omega⟩, ⟨m, hm.1, hm.2, rfl⟩, o8, by show bCnt xb ≤ 16; omega, o12⟩
  · rintro σ H1 ⟨b', w', lc, locs, ys, ps, y5, y6, y11, y12, rfl, bH, B1, nP, eP, dP, enP, hP⟩
    obtain ⟨xs, x1, x2⟩ := B1.s.v
    obtain ⟨ts, t1, t2⟩ := B1.s.t
    obtain ⟨os, o1, o2⟩ := B1.s.o
    refine ⟨_, rfl, sc, _, rfl, DGet.k (k := .inr "variables") B1.s.d, v, xs, rfl, .inl ⟨SqL.of x1, fun q1 hq1 => ?_⟩⟩
    have m1 := same_new hq1 (.tup xs)
    have d1 : Dp K _ (.ref q1) (trips vars) := dp_tup hq1 x2
    refine ⟨_, rfl, sc, _, rfl, DGet.k (k := .inr "tables") (m1 _ _ B1.s.d), t, ts, rfl, .inl ⟨SqL.of (m1 _ _ t1), fun q2 hq2 => ?_⟩⟩
    have m2 := same_new hq2 (.tup ts)
    have d2 : Dp K _ (.ref q2) (trips tabs) := dp_tup hq2 (dp_monoAll m1 _ _ t2)
    refine ⟨_, rfl, sc, _, rfl, DGet.k (k := .inr "lots") (m2 _ _ (m1 _ _ B1.s.d)), o, os, rfl, .inl ⟨SqL.of (m2 _ _ (m1 _ _ o1)), fun q3 hq3 => ?_⟩⟩
    have m3 := same_new hq3 (.tup os)
    have d3 : Dp K _ (.ref q3) (trips lots) := dp_tup hq3 (dp_monoAll (m1.trans m2) _ _ o2)
    have m13 := m1.trans (m2.trans m3)
    refine ⟨_, rfl, PL, ys, rfl, .inl ⟨SqL.of (m13 _ _ eP), fun q4 hq4 => ?_⟩⟩
    have m4 := same_new hq4 (.tup ys)
    have d4 : Dp K _ (.ref q4) (.tuple (ps.map Pr.d)) := dp_tup hq4 (dp_monoAll m13 _ _ dP)
    refine ⟨big 4 (by decide), fun q5 hq5 => ?_⟩
    have m5 := same_new hq5 (.tup [V.ref q1, V.ref q2, V.ref q3, V.ref q4])
    have mm := m13.trans (m4.trans m5)
    refine q (.ref q5) ⟨vars, tabs, lots, ps⟩ _ b' (bH.trans (But.same mm)) (B1.p.same mm) (dp_tup hq5 (.cons (dp_mono (m2.trans (m3.trans m4)) _ _ d1) (.cons (dp_mono (m3.trans m4) _ _ d2) (.cons (dp_mono m4 _ _ d3) (.cons d4 .nil))))) ⟨hvar, hbv, htab, hbt, hlot, hbo, ⟨n, hn.1, hn.2, enP⟩, hP⟩
end
end Toy
set_option Elab.async false
set_option linter.all false
set_option maxRecDepth 100000
set_option maxHeartbeats 8000000
namespace Toy
open PySem L2 NdefX Gm
open Mine hiding same_new
open Pz (But)
def spVN (K : PySem.W.Frag) (n : Nat) : Sp := fun vs H Q _ => ∃ (v : V) (e : Ex) (r : Rnm), vs = [v, .str r.k, .str r.o, .str r.n] ∧ Dp K H v e.d ∧ exF n e ∧ ∀ (u : V) (H' : Hp), Same H H' → Dp K H' u (e.nm r).d → Q u H'
theorem pick_at {r : Rnm} {k x : Str} (h : k = r.k) : atI [V.str x, V.str r.n] (if (decide (V.str x = V.str r.o)) = true then 1 else 0) = some (.str (r.at_ k x)) := by
  unfold Rnm.at_
  by_cases e : x = r.o
  · rw [if_pos (decide_eq_true (congrArg V.str e)), if_pos ⟨h, e⟩]
    rfl
  · rw [if_neg (fun z => e (V.str.inj (of_decide_eq_true z))), if_neg (fun z => e z.2)]
    rfl
theorem pick_no {r : Rnm} {k x : Str} (h : k ≠ r.k) : atI [V.str x, V.str r.n] (if false = true then 1 else 0) = some (.str (r.at_ k x)) := by
  unfold Rnm.at_
  rw [if_neg Bool.false_ne_true, if_neg (fun z => h z.1)]
  rfl
section
variable {P : Program} {w : World} {K : PySem.W.Frag} {mg : Str → Option Value} {base : Heap} {file : Str}
theorem vn_of (T : Txt K mg file) {n : Nat} (G_law_value_named : FnOk P w K mg base CX0 (n + 1) T.a_law_value_named T.fd_law_value_named ["due", "kind", "old", "new"] (spVN K n)) : FnOk P w K mg base CX0 (n + 2) T.a_law_value_named T.fd_law_value_named ["due", "kind", "old", "new"] (spVN K (n + 1)) := by
  refine T.F_law_value_named.ok sc_law_value_named (fun vs H Q E h => ?_) (fun cdv A outer s H vs Q E hr h => ?_)
  · obtain ⟨v, e, r, rfl, _⟩ := h
    rfl
  obtain ⟨v, e, r, rfl, dv, fe, q⟩ := h
  refine ⟨_, (pss_cons (ps_if (pt_cmpR op_eq (pe_ix ix_tup (pv 0) pe_int (fun _ _ => rfl)) pe_str (nomark _))
      (pss_one (ps_ret (pv 0)))
      pss_nil)
    (pss_cons (ps_if (pt_cmpR op_in_seq (pe_ix ix_tup (pv 0) pe_int (fun _ _ => rfl)) (pe_tup (pa_cons pe_str (pa_cons pe_str pa_nil))) rfl)
      (pss_one (ps_ret (pe_tup (pa_cons (pe_ix ix_tup (pv 0) pe_int (fun _ _ => rfl)) (pa_cons (pe_ix ix_tup (pe_tup (pa_cons (pe_ix ix_tup (pv 0) pe_int (fun _ _ => rfl)) (pa_cons (pv 3) pa_nil))) (pe_callTy call_int1 (by rfl) T.z_int (by decide +kernel) (pa_cons (pe_and (pe_cmpR op_eq (pe_ix ix_tup (pv 0) pe_int (fun _ _ => rfl)) (pv 1) (nomark _)) (pe_one (pe_cmpR op_eq (pe_ix ix_tup (pv 0) pe_int (fun _ _ => rfl)) (pv 2) (nomark _)))) pa_nil)) (fun _ _ => rfl)) pa_nil)))))
      pss_nil)
    (pss_cons (ps_if (pt_cmpR op_in_seq (pe_ix ix_tup (pv 0) pe_int (fun _ _ => rfl)) (pe_tup (pa_cons pe_str (pa_cons pe_str pa_nil))) rfl)
      (pss_one (ps_ret (pe_tup (pa_cons (pe_ix ix_tup (pv 0) pe_int (fun _ _ => rfl)) (pa_cons (pe_ix ix_tup (pe_tup (pa_cons (pe_ix ix_tup (pv 0) pe_int (fun _ _ => rfl)) (pa_cons (pv 3) pa_nil))) (pe_callTy call_int1 (by rfl) T.z_int (by decide +kernel) (pa_cons (pe_and (pe_cmpR op_eq (pv 1) pe_str (nomark _)) (pe_one (pe_cmpR op_eq (pe_ix ix_tup (pv 0) pe_int (fun _ _ => rfl)) (pv 2) (nomark _)))) pa_nil)) (fun _ _ => rfl)) (pa_cons (pe_call G_law_value_named (hr.mono (by omega)) rfl T.g_law_value_named T.k_law_value_named T.b_law_value_named .nil pass0 (pa_cons (pe_ix ix_tup (pv 0) pe_int (fun _ _ => rfl)) (pa_cons (pv 1) (pa_cons (pv 2) (pa_cons (pv 3) pa_nil))))) pa_nil))))))
      pss_nil)
    (pss_one (ps_ret (pe_tup (pa_cons (pe_ix ix_tup (pv 0) pe_int (fun _ _ => rfl)) (pa_cons (pe_call G_law_value_named (hr.mono (by omega)) rfl T.g_law_value_named T.k_law_value_named T.b_law_value_named .nil pass0 (pa_cons (pe_ix ix_tup (pv 0) pe_int (fun _ _ => rfl)) (pa_cons (pv 1) (pa_cons (pv 2) (pa_cons (pv 3) pa_nil))))) (pa_cons (pe_call G_law_value_named (hr.mono (by omega)) rfl T.g_law_value_named T.k_law_value_named T.b_law_value_named .nil pass0 (pa_cons (pe_ix ix_tup (pv 0) pe_int (fun _ _ => rfl)) (pa_cons (pv 1) (pa_cons (pv 2) (pa_cons (pv 3) pa_nil))))) pa_nil))))))))), ?_⟩
  have i2 : ∀ x a b : Str, inV (.str x) [V.str a, V.str b] = decide (x = a ∨ x = b) := fun x a b => by
    rw [show ([V.str a, V.str b] : List V) = [a, b].map V.str from rfl, Pz.inV_strs]
    simp
  obtain ⟨a, rr, rfl, ha⟩ := ex_inv dv
  refine ⟨_, rfl, a, _, 0, _, rfl, rfl, ha, atI_nat (j := 0) rfl, rfl, _, rfl, ite2 (fun c => ?_) (fun c => ?_)⟩
  · have c : e.kind = "number" := V.str.inj (of_decide_eq_true c)
    obtain ⟨z, rfl⟩ := num_is fe c
    exact ⟨_, rfl, q _ _ (Same.refl _) dv⟩
  have c : e.kind ≠ "number" := fun z => c (decide_eq_true (congrArg V.str z))
  refine ⟨_, rfl, a, _, 0, _, rfl, rfl, ha, atI_nat (j := 0) rfl, big 2 (by decide), fun t ht => ?_⟩
  have m1 := Gm.same_new ht (.tup [V.str "local", V.str "variable"])
  refine ⟨t, _, rfl, .inr (SqT.of upd_same), rfl, rfl, _, rfl, ?_⟩
  rw [if_neg Bool.false_ne_true, i2]
  have dv := dp_mono m1 _ _ dv
  have ha := sqT_mono m1 ha
  refine ite2 (fun c2 => ?_) (fun c2 => ?_)
  · have c2 := of_decide_eq_true c2
    obtain ⟨x, hs, q1⟩ : ∃ x : Str, SqT K (upd H t (.tup [V.str "local", V.str "variable"])) a [.str e.kind, .str x] ∧ (∀ u H', Same (upd H t (.tup [V.str "local", V.str "variable"])) H' → Dp K H' u (.tuple [.str e.kind, .str (r.at_ e.kind x)]) → Q u H') := by
      rcases loc_or_var fe c2 with ⟨x, rfl⟩ | ⟨x, rfl⟩
      · obtain ⟨b, eb, hb⟩ := loc_inv dv
        cases eb
        exact ⟨x, hb, fun u H' m d => q u H' (m1.trans m) d⟩
      · obtain ⟨b, eb, hb⟩ := var_inv dv
        cases eb
        exact ⟨x, hb, fun u H' m d => q u H' (m1.trans m) d⟩
    refine ⟨_, rfl, a, _, 0, _, rfl, rfl, hs, atI_nat (j := 0) rfl, ?_⟩
    refine ⟨_, rfl, a, _, 1, _, rfl, rfl, hs, atI_nat (j := 1) rfl, _, rfl, big 2 (by decide), fun p hp => ?_⟩
    have m2 := Gm.same_new hp (.tup [V.str x, V.str r.n])
    have hs2 := sqT_mono m2 hs
    refine ⟨_, rfl, a, _, 0, _, rfl, rfl, hs2, atI_nat (j := 0) rfl, ?_⟩
    have fin : ∀ {t3 : Addr}, (upd (upd H t (.tup [V.str "local", V.str "variable"])) p (.tup [V.str x, V.str r.n])) t3 = none → Q (.ref t3) (upd (upd (upd H t (.tup [V.str "local", V.str "variable"])) p (.tup [V.str x, V.str r.n])) t3 (.tup [V.str e.kind, V.str (r.at_ e.kind x)])) := fun h3 => q1 _ _ (m2.trans (Gm.same_new h3 _)) (dp_tup h3 (.cons (.str _) (.cons (.str _) .nil)))
    refine ⟨_, rfl, rfl, _, rfl, ite2 (fun z => ?_) (fun z => ?_)⟩
    · have z := V.str.inj (of_decide_eq_true z)
      refine ⟨_, rfl, a, _, 1, _, rfl, rfl, hs2, atI_nat (j := 1) rfl, _, rfl, rfl, .inr ⟨_, rfl, p, _, _, _, rfl, rfl, SqT.of upd_same, pick_at z, big 2 (by decide), fun t3 h3 => fin h3⟩⟩
    · have z : e.kind ≠ r.k := fun y => z (decide_eq_true (congrArg V.str y))
      refine .inr ⟨_, rfl, p, _, _, _, rfl, rfl, SqT.of upd_same, pick_no z, big 2 (by decide), fun t3 h3 => fin h3⟩
  have i3 := i2 e.kind "has" "cell"
  refine ⟨_, rfl, a, _, 0, _, rfl, rfl, ha, atI_nat (j := 0) rfl, big 2 (by decide), fun t2 ht2 => ?_⟩
  have m2 := Gm.same_new ht2 (.tup [V.str "has", V.str "cell"])
  refine ⟨t2, _, rfl, .inr (SqT.of upd_same), rfl, rfl, _, rfl, ?_⟩
  rw [if_neg Bool.false_ne_true, i2]
  have dv := dp_mono m2 _ _ dv
  have ha := sqT_mono m2 ha
  have m12 := m1.trans m2
  revert dv ha m12
  generalize upd (upd H t (.tup [V.str "local", V.str "variable"])) t2 (.tup [V.str "has", V.str "cell"]) = H1
  intro dv ha m12
  refine ite2 (fun c3 => ?_) (fun c3 => ?_)
  · have c3 := of_decide_eq_true c3
    obtain ⟨x, y, ee, hs, de, fy, q1⟩ : ∃ (x : Str) (y : V) (ee : Ex), SqT K H1 a [.str e.kind, .str x, y] ∧ Dp K H1 y ee.d ∧ exF n ee ∧ (∀ u H', Same H1 H' → Dp K H' u (.tuple [.str e.kind, .str (r.at_ "table" x), (ee.nm r).d]) → Q u H') := by
      rcases look_is fe c3 with ⟨x, ee, rfl⟩ | ⟨x, ee, rfl⟩
      · obtain ⟨b, u, eb, hb, du⟩ := has_inv dv
        cases eb
        exact ⟨x, u, ee, hb, du, fe.2, fun u H' m d => q u H' (m12.trans m) d⟩
      · obtain ⟨b, u, eb, hb, du⟩ := cell_inv dv
        cases eb
        exact ⟨x, u, ee, hb, du, fe.2, fun u H' m d => q u H' (m12.trans m) d⟩
    refine ⟨_, rfl, a, _, 0, _, rfl, rfl, hs, atI_nat (j := 0) rfl, ?_⟩
    refine ⟨_, rfl, a, _, 1, _, rfl, rfl, hs, atI_nat (j := 1) rfl, _, rfl, big 2 (by decide), fun p hp => ?_⟩
    have m3 := Gm.same_new hp (.tup [V.str x, V.str r.n])
    have hs2 := sqT_mono m3 hs
    have ep : (upd H1 p (.tup [V.str x, V.str r.n])) p = _ := upd_same
    have de := dp_mono m3 _ _ de
    revert hs2 ep m3 de
    generalize upd H1 p (.tup [V.str x, V.str r.n]) = H2
    intro m3 hs2 ep de
    have rest : ∀ (u : V) (H3 : Hp) (t3 : Addr), Same H2 H3 → Dp K H3 u (ee.nm r).d → H3 t3 = none → Q (.ref t3) (upd H3 t3 (.tup [V.str e.kind, V.str (r.at_ "table" x), u])) := fun u H3 t3 m du h3 => q1 _ _ (m3.trans (m.trans (Gm.same_new h3 _))) (dp_tup h3 (.cons (.str _) (.cons (.str _) (.cons du .nil))))
    have call : ∀ {Q' : VK}, (∀ u H3, Same H2 H3 → Dp K H3 u (ee.nm r).d → Q' u H3) → spVN K n [y, .str r.k, .str r.o, .str r.n] H2 Q' (fun _ _ _ => False) := fun h => ⟨y, ee, r, rfl, de, fy, h⟩
    refine ⟨_, rfl, rfl, _, rfl, ite2 (fun z => ?_) (fun z => ?_)⟩
    · have z := V.str.inj (of_decide_eq_true z)
      refine ⟨_, rfl, a, _, 1, _, rfl, rfl, hs2, atI_nat (j := 1) rfl, _, rfl, rfl, .inr ⟨_, rfl, p, _, _, _, rfl, rfl, SqT.of ep, pick_at z.symm, ?_⟩⟩
      refine ⟨_, rfl, a, _, 2, _, rfl, rfl, hs2, atI_nat (j := 2) rfl, _, rfl, _, rfl, _, rfl, y, ee, r, rfl, de, fy, fun u H3 m du => ⟨big 3 (by decide), fun t3 h3 => rest u H3 t3 m du h3⟩⟩
    · have z : ("table" : Str) ≠ r.k := fun y => z (decide_eq_true (congrArg V.str y.symm))
      refine .inr ⟨_, rfl, p, _, _, _, rfl, rfl, SqT.of ep, pick_no z, ?_⟩
      refine ⟨_, rfl, a, _, 2, _, rfl, rfl, hs2, atI_nat (j := 2) rfl, _, rfl, _, rfl, _, rfl, y, ee, r, rfl, de, fy, fun u H3 m du => ⟨big 3 (by decide), fun t3 h3 => rest u H3 t3 m du h3⟩⟩
  · have c3 : ¬ (e.kind = "has" ∨ e.kind = "cell") := fun z => c3 (decide_eq_true z)
    have c2 : ¬ (e.kind = "local" ∨ e.kind = "variable") := fun z => c2 (decide_eq_true z)
    obtain ⟨o, x, y, rfl⟩ := op_is c c2 c3
    obtain ⟨b, u, z, eb, hb, du, dz⟩ := op_inv dv
    cases eb
    refine ⟨_, rfl, a, _, 0, _, rfl, rfl, hb, atI_nat (j := 0) rfl, ?_⟩
    refine ⟨_, rfl, a, _, 1, _, rfl, rfl, hb, atI_nat (j := 1) rfl, _, rfl, _, rfl, _, rfl, u, x, r, rfl, du, fe.2.1, fun u1 H3 m3 d1 => ?_⟩
    refine ⟨_, rfl, a, _, 2, _, rfl, rfl, sqT_mono m3 hb, atI_nat (j := 2) rfl, _, rfl, _, rfl, _, rfl, z, y, r, rfl, dp_mono m3 _ _ dz, fe.2.2, fun u2 H4 m4 d2 => ?_⟩
    refine ⟨big 3 (by decide), fun t3 h3 => ?_⟩
    exact q _ _ (m12.trans (m3.trans (m4.trans (Gm.same_new h3 _)))) (dp_tup h3 (.cons (.str _) (.cons (dp_mono m4 _ _ d1) (.cons d2 .nil))))
theorem ok_vn (T : Txt K mg file) : ∀ n : Nat, FnOk P w K mg base CX0 (n + 1) T.a_law_value_named T.fd_law_value_named ["due", "kind", "old", "new"] (spVN K n)
  | 0 => ⟨fun _ _ _ _ h => by obtain ⟨_, _, _, _, _, f, _⟩ := h; exact f.elim, fun _ _ _ _ _ _ _ _ _ _ _ _ _ h => by obtain ⟨_, _, _, _, _, f, _⟩ := h; exact f.elim⟩
  | n + 1 => vn_of T (ok_vn T n)
end
end Toy
set_option Elab.async false
set_option linter.all false
set_option maxRecDepth 100000
set_option maxHeartbeats 8000000
namespace Toy
open PySem L2 NdefX Gm
open Mine hiding same_new
open Pz (But)
def spBN (K : PySem.W.Frag) (d : Nat) : Sp := fun vs H Q _ => ∃ (v : V) (b : Blk) (r : Rnm), vs = [v, .str r.k, .str r.o, .str r.n] ∧ Dp K H v b.d ∧ blF 6 d b ∧ b.tot ≤ 100 ∧ ∀ (u : V) (H' : Hp), Same H H' → Dp K H' u (b.nm r).d → Q u H'
/-- a statement that is being renamed -/
structure Wk (K : PySem.W.Frag) (H0 H : Hp) (F W sa : Addr) (vs rr : List V) (ds : List PyData) (s : Stm) (es : List PyData) : Prop where
  a : Acc K H0 H F vs ds
  w : ∃ ws, H W = some (.lst ws) ∧ DpAll K H ws es
  n : nolAll es = true
  f : W ≠ F ∧ H0 W = none
  t : SqT K H sa (.str s.kind :: rr)
  r : DpAll K H rr (s.pt.map Pt.d)
theorem Wk.same {K : PySem.W.Frag} {H0 H H' : Hp} {F W a : Addr} {vs rr : List V} {ds es : List PyData} {s : Stm} (h : Wk K H0 H F W a vs rr ds s es) (m : Same H H') : Wk K H0 H' F W a vs rr ds s es := by
  obtain ⟨ws, e, d⟩ := h.w
  exact ⟨h.a.grow m, ⟨ws, m _ _ e, dp_monoAll m _ _ d⟩, h.n, h.f, sqT_mono m h.t, dp_monoAll m _ _ h.r⟩
theorem Wk.set {K : PySem.W.Frag} {H0 H : Hp} {F W a : Addr} {vs rr ws : List V} {ds es : List PyData} {s : Stm} (h : Wk K H0 H F W a vs rr ds s es) (e : H W = some (.lst ws)) (d : DpAll K H ws es) (i : Nat) {u : V} {x : PyData} (du : Dp K H u x) (nx : nol x = true) : Wk K H0 (upd H W (.lst (ws.set i u))) F W a vs rr ds s (es.set i x) := by
  have tp : Tups H (upd H W (.lst (ws.set i u))) := Tups.lst e
  refine ⟨⟨fun b o q => ?_, h.a.f, by rw [upd_ne h.f.1.symm]; exact h.a.l, dp_tupsAll tp _ _ h.a.n h.a.d, h.a.n⟩, ⟨_, upd_same, dp_tupsAll tp _ _ (nolAll_mem h.n i _ nx) (dps_set d i du)⟩, nolAll_mem h.n i _ nx, h.f, sqT_tups tp h.t, dp_tupsAll tp _ _ (nolAll_pt _) h.r⟩
  rw [upd_ne (ne_of_none q h.f.2)]
  exact h.a.s _ _ q
theorem ty_tup {K : PySem.W.Frag} {H : Hp} {a : Addr} {xs : List V} (h : SqT K H a xs) : TyX K H (.ref a) (.type "tuple") := by
  rcases h with (h | ⟨o, h⟩) | ⟨o, _, _, h, c, _⟩
  · exact .base (.tup h)
  · exact .fTuple h
  · exact .kTuple h c
theorem ix_in {n : Nat} {i : Nat} (h : i < n) : ixN n (i : Int) = some i := by
  unfold ixN
  rw [if_pos (by omega), if_pos (by omega)]
  rfl
theorem first_at (k : Str) : (valV (mergeK [] [((.inr "set" : Key), V.str "variable"), (.inr "put", .str "table")]) (.inr k : Key)).getD (.str "local") = .str (firstOf k) := by
  have e : mergeK [] [((.inr "set" : Key), V.str "variable"), (.inr "put", .str "table")] = [((.inr "set" : Key), V.str "variable"), (.inr "put", .str "table")] := by decide +kernel
  rw [e]
  unfold valV firstOf
  by_cases h1 : k = "set"
  · rw [List.find?_cons_of_pos (by exact decide_eq_true (congrArg Sum.inr h1.symm)), if_pos h1]
    rfl
  · rw [List.find?_cons_of_neg (by intro z; exact h1 (Sum.inr.inj (of_decide_eq_true z)).symm), if_neg h1]
    by_cases h2 : k = "put"
    · rw [List.find?_cons_of_pos (by exact decide_eq_true (congrArg Sum.inr h2.symm)), if_pos h2]
      rfl
    · rw [List.find?_cons_of_neg (by intro z; exact h2 (Sum.inr.inj (of_decide_eq_true z)).symm), if_neg h2]
      rfl
theorem pt_get {s : Stm} {r : Rnm} {i : Nat} {p : Pt} (h : s.pt[i]? = some p) : (.str s.kind :: (s.pt.take (i + 1)).map (fun p => (p.nm r).d) ++ (s.pt.drop (i + 1)).map Pt.d : List PyData) = (.str s.kind :: (s.pt.take i).map (fun p => (p.nm r).d) ++ (s.pt.drop i).map Pt.d : List PyData).set (i + 1) (p.nm r).d := by
  obtain ⟨h1, h2⟩ := List.getElem?_eq_some_iff.mp h
  rw [take_more h, List.drop_eq_getElem_cons h1, h2]
  have hl : ((s.pt.take i).map (fun p => (p.nm r).d)).length = i := by rw [List.length_map, List.length_take]; omega
  show _ = PyData.str s.kind :: (List.set ((s.pt.take i).map (fun p => (p.nm r).d) ++ _) i _)
  rw [List.set_append_right _ _ (by omega)]
  rw [hl, Nat.sub_self, List.map_append]
  simp only [List.map_cons, List.map_nil, List.set_cons_zero, List.append_assoc, List.cons_append, List.nil_append]
theorem pt_skip {s : Stm} {r : Rnm} {i : Nat} {p : Pt} (h : s.pt[i]? = some p) (e : (p.nm r).d = p.d) : (.str s.kind :: (s.pt.take (i + 1)).map (fun p => (p.nm r).d) ++ (s.pt.drop (i + 1)).map Pt.d : List PyData) = (.str s.kind :: (s.pt.take i).map (fun p => (p.nm r).d) ++ (s.pt.drop i).map Pt.d : List PyData) := by
  obtain ⟨h1, h2⟩ := List.getElem?_eq_some_iff.mp h
  rw [take_more h, List.drop_eq_getElem_cons h1, h2, List.map_append]
  simp only [List.map_cons, List.map_nil, List.append_assoc, List.cons_append, List.nil_append, e]
theorem pt_b_fit {n j : Nat} {s : Stm} {x : Blk} (h : stF 6 n s) (e : s.pt[j]? = some (.b x)) : ∃ m, n = m + 1 ∧ blF 6 m x ∧ x.tot ≤ s.tot := by
  have hm := List.mem_of_getElem? e
  cases s with
  | ite t a b =>
    cases n with
    | zero => unfold stF at h; exact h.elim
    | succ n =>
      unfold stF at h
      rw [tot_ite]
      simp [Stm.pt] at hm
      rcases hm with rfl | rfl
      · exact ⟨n, rfl, h.2.1, by omega⟩
      · exact ⟨n, rfl, h.2.2.1, by omega⟩
  | after a =>
    cases n with
    | zero => unfold stF at h; exact h.elim
    | succ n =>
      unfold stF at h
      rw [tot_aft]
      simp [Stm.pt] at hm
      subst hm
      exact ⟨n, rfl, h.1, by omega⟩
  | _ => simp [Stm.pt] at hm
theorem pt_e_fit {n j : Nat} {s : Stm} {x : Ex} (h : stF 6 n s) (e : s.pt[j]? = some (.e x)) : exF 6 x := by
  have hm := List.mem_of_getElem? e
  cases s with
  | set y e => unfold stF at h; simp [Stm.pt] at hm; subst hm; exact h.2
  | lt y e => unfold stF at h; simp [Stm.pt] at hm; subst hm; exact h.2
  | draw y e => simp [Stm.pt] at hm
  | put y e f => unfold stF at h; simp [Stm.pt] at hm; rcases hm with rfl | rfl; exact h.2.1; exact h.2.2
  | lot y o e => unfold stF at h; simp [Stm.pt] at hm; subst hm; exact h.2.2
  | ask y o e => unfold stF at h; simp [Stm.pt] at hm; subst hm; exact h.2.2
  | bad => simp [Stm.pt] at hm
  | after a => simp [Stm.pt] at hm
  | ite t a b =>
    cases n with
    | zero => unfold stF at h; exact h.elim
    | succ n => unfold stF at h; simp [Stm.pt] at hm; subst hm; exact h.1
section
variable {P : Program} {w : World} {K : PySem.W.Frag} {mg : Str → Option Value} {base : Heap} {file : Str}
theorem bn_of (T : Txt K mg file) {n : Nat} (sp0 : Sp) (G_law_block_named : FnOk P w K mg base CX0 (n + 8) T.a_law_block_named T.fd_law_block_named ["block", "kind", "old", "new"] sp0) (hsp : ∀ j, n = j + 1 → ∀ vs H Q E, spBN K j vs H Q E → sp0 vs H Q E) : FnOk P w K mg base CX0 (n + 9) T.a_law_block_named T.fd_law_block_named ["block", "kind", "old", "new"] (spBN K n) := by
  have G_law_value_named : FnOk P w K mg base CX0 7 T.a_law_value_named T.fd_law_value_named ["due", "kind", "old", "new"] (spVN K 6) := ok_vn T 6
  refine T.F_law_block_named.ok sc_law_block_named (fun vs H Q E h => ?_) (fun cdv A outer s H vs Q E hr h => ?_)
  · obtain ⟨v, b, r, rfl, _⟩ := h
    rfl
  obtain ⟨v, b, r, rfl, dv, fb, ht, q⟩ := h
  refine ⟨_, (pss_cons (ps_set (i := 4) sc_law_block_named.nd rfl (Or.inl rfl) (pe_lst pa_nil))
    (pss_cons (ps_for PassesOwn.never rfl (pi_tup (pv 0)) (pg_name (i := 5) sc_law_block_named.nd rfl (Or.inl rfl))
      (pss_cons (ps_set (i := 6) sc_law_block_named.nd rfl (Or.inl rfl) (pe_callTy call_list_of (by rfl) T.z_list (by decide +kernel) (pa_cons (pv 5) pa_nil)))
    (pss_cons (ps_for PassesOwn.never rfl (pi_range2 (by rfl) T.z_range (pa_cons pe_int (pa_cons (pe_callB call_len_seq (by rfl) T.z_len (by decide +kernel) (pa_cons (pv 5) pa_nil)) pa_nil))) (pg_name (i := 7) sc_law_block_named.nd rfl (Or.inl rfl))
      (pss_one (ps_if (PW.pt (pw_and (pt_cmpR op_in_seq (pe_ix ix_tup (pv 5) pe_int (fun _ _ => rfl)) (pe_tup (pa_cons pe_str (pa_cons pe_str pa_nil))) rfl) (pw_and1 (PW.pt (pw_or (pt_cmpR op_eq (pe_ix ix_tup (pv 5) pe_int (fun _ _ => rfl)) pe_str (nomark _)) (pw_or1 (pt_cmpR op_gt (pv 7) pe_int (nomark _))))))))
      (pss_one (ps_asg (pe_call G_law_block_named (hr.mono (by omega)) rfl T.g_law_block_named T.k_law_block_named T.b_law_block_named .nil pass0 (pa_cons (pe_ix ix_tup (pv 5) (pv 7) (fun _ _ => rfl)) (pa_cons (pv 1) (pa_cons (pv 2) (pa_cons (pv 3) pa_nil))))) (pg_sub (pv 6) (pv 7) set_list)))
      (pss_one (ps_if (pt_val (pe_callB call_isi (by rfl) T.z_isinstance (by decide +kernel) (pa_cons (pe_ix ix_tup (pv 5) (pv 7) (fun _ _ => rfl)) (pa_cons (pe_bltn (v := .ty "tuple") (by rfl) T.z_tuple (by decide +kernel) rfl) pa_nil))))
      (pss_one (ps_asg (pe_call G_law_value_named (hr.mono (by omega)) rfl T.g_law_value_named T.k_law_value_named T.b_law_value_named .nil pass0 (pa_cons (pe_ix ix_tup (pv 5) (pv 7) (fun _ _ => rfl)) (pa_cons (pv 1) (pa_cons (pv 2) (pa_cons (pv 3) pa_nil))))) (pg_sub (pv 6) (pv 7) set_list)))
      pss_nil)))))
    (pss_cons (ps_set (i := 8) sc_law_block_named.nd rfl (Or.inl rfl) (pe_dget2 (hu_of hr) (pe_disp (pps_cons pe_str pe_str (pps_cons pe_str pe_str pps_nil)) (by rfl) (by rfl) (fun z => by cases z) (by decide)) (pe_ix ix_tup (pv 5) pe_int (fun _ _ => rfl)) pe_str ⟨by rfl, by rfl, by rfl, by rfl⟩))
    (pss_cons (ps_if (PW.pt (pw_and (pt_cmpR op_in_seq (pe_ix ix_tup (pv 5) pe_int (fun _ _ => rfl)) (pe_tup (pa_cons pe_str (pa_cons pe_str (pa_cons pe_str (pa_cons pe_str (pa_cons pe_str pa_nil)))))) rfl) (pw_and (pt_cmpR op_eq (pv 1) (pv 8) (nomark _)) (pw_and1 (pt_cmpR op_eq (pe_ix ix_tup (pv 5) pe_int (fun _ _ => rfl)) (pv 2) (nomark _))))))
      (pss_one (ps_asg (pv 3) (pg_sub (pv 6) pe_int set_list)))
      pss_nil)
    (pss_cons (ps_if (PW.pt (pw_and (pt_cmpR op_eq (pe_ix ix_tup (pv 5) pe_int (fun _ _ => rfl)) pe_str (nomark _)) (pw_and (pt_cmpR op_eq (pv 1) pe_str (nomark _)) (pw_and1 (pt_cmpR op_eq (pe_ix ix_tup (pv 5) pe_int (fun _ _ => rfl)) (pv 2) (nomark _))))))
      (pss_one (ps_asg (pv 3) (pg_sub (pv 6) pe_int set_list)))
      pss_nil)
    (pss_one (ps_expr (pe_bm PySem.F.plainAttrs_list PySem.F.slot_list_append PySem.F.type_list_append mt_append (pv 4) (pa_cons (pe_callTy call_tuple_of (by rfl) T.z_tuple (by decide +kernel) (pa_cons (pv 6) pa_nil)) pa_nil))))))))))
    (pss_one (ps_ret (pe_callTy call_tuple_of (by rfl) T.z_tuple (by decide +kernel) (pa_cons (pv 4) pa_nil)))))), ?_⟩
  have i2 : ∀ x a b : Str, inV (.str x) [V.str a, V.str b] = decide (x = a ∨ x = b) := fun x a b => by
    rw [show ([V.str a, V.str b] : List V) = [a, b].map V.str from rfl, Pz.inV_strs]
    simp
  have i5 : ∀ x : Str, inV (.str x) [V.str "set", V.str "let", V.str "draw", V.str "put", V.str "lot"] = decide (x ∈ five) := fun x => Pz.inV_strs x five
  obtain ⟨a, xs, rfl, ha, dxs⟩ := dp_inv dv
  rw [Blk.ds_l] at dxs
  have lx : xs.length = b.l.length := (DpAll.len dxs).trans (List.length_map _)
  have lb := blk_len_tot b
  refine ⟨big 0 (by decide), fun F hF => ?_⟩
  have m0 := Gm.same_new hF (.lst [])
  refine ⟨_, rfl, a, rfl, ⟨_, sqT_mono m0 ha⟩, ?_⟩
  refine for_tup (K := K) (a := a) (xs := xs) (fun i σ H' => ∃ (vs : List V) (y5 y6 y7 y8 : Option V), σ = [some (.ref a), some (.str r.k), some (.str r.o), some (.str r.n), some (.ref F), y5, y6, y7, y8] ∧ Acc K H H' F vs (((b.l.take i).map fun s => s.nm r).map Stm.d)) ⟨[], none, none, none, none, rfl, Acc.start hF⟩ (fun i σ H' _ ⟨_, _, _, _, _, _, ac⟩ => sqT_mono ac.s ha) ?_ ?_
  · rintro i x σ H1 hx ⟨vs, y5, y6, y7, y8, rfl, ac⟩
    have hi := (List.getElem?_eq_some_iff.mp hx).1
    obtain ⟨s, es⟩ : ∃ s, b.l[i]? = some s := ⟨b.l[i]'(lx ▸ hi), List.getElem?_eq_getElem _⟩
    obtain ⟨x', ex, ds⟩ := DpAll.get dxs (show (b.l.map Stm.d)[i]? = some s.d by rw [List.getElem?_map, es]; rfl)
    rw [hx] at ex
    cases ex
    have hs := List.mem_of_getElem? es
    have fs := blF.l fb s hs
    have ts := blk_tot_at hs
    have ds1 := dp_mono ac.s _ _ ds
    rw [pt_d] at ds1
    obtain ⟨sa, ss, rfl, hsa, dss⟩ := dp_inv ds1
    obtain ⟨u, rr, rfl, d1, dr⟩ := dps_cons dss
    rw [dp_s d1] at hsa
    have lr : rr.length = s.pt.length := (DpAll.len dr).trans (List.length_map _)
    have lp : s.pt.length ≤ 3 := by cases s <;> (show _ ≤ 3; simp [Stm.pt])
    refine gn ?_
    refine ⟨_, rfl, sa, _, rfl, .inr hsa, fun W hW => ?_⟩
    have m2 := Gm.same_new hW (.lst (V.str s.kind :: rr))
    have hW0 : H W = none := by
      cases z : H W with
      | none => rfl
      | some o => rw [ac.s _ _ z] at hW; cases hW
    have wk : Wk K H (upd H1 W (.lst (V.str s.kind :: rr))) F W sa vs rr (((b.l.take i).map fun s => s.nm r).map Stm.d) s (.str s.kind :: s.pt.map Pt.d) :=
      ⟨ac.grow m2, ⟨_, upd_same, .cons (.str _) (dp_monoAll m2 _ _ dr)⟩, by show (Gm.nol (.str s.kind) && nolAll (s.pt.map Pt.d)) = true; rw [nolAll_pt]; rfl, ⟨(ne_of_none ac.l hW).symm, hW0⟩, sqT_mono m2 hsa, dp_monoAll m2 _ _ dr⟩
    refine gn ?_
    revert wk
    generalize upd H1 W (.lst (V.str s.kind :: rr)) = H2
    intro wk
    refine ⟨_, rfl, sa, V.str s.kind :: rr, rfl, .inr wk.t, 1, _, rfl, by rw [List.length_cons]; omega, ?_⟩
    have en : (((V.str s.kind :: rr).length : Int) - 1).toNat = s.pt.length := by rw [List.length_cons, lr]; omega
    rw [en]
    refine for_range (lo := 1) (n := s.pt.length) (fun j σ H' => ∃ (y7 y8 : Option V), σ = [some (.ref a), some (.str r.k), some (.str r.o), some (.str r.n), some (.ref F), some (.ref sa), some (.ref W), y7, y8] ∧ Wk K H H' F W sa vs rr (((b.l.take i).map fun s => s.nm r).map Stm.d) s (.str s.kind :: (s.pt.take j).map (fun p => (p.nm r).d) ++ (s.pt.drop j).map Pt.d)) ⟨_, _, rfl, wk⟩ ?_ ?_
    · rintro j σ H3 hj ⟨y7, y8, rfl, wk⟩
      obtain ⟨p, ep⟩ : ∃ p, s.pt[j]? = some p := ⟨s.pt[j], List.getElem?_eq_getElem hj⟩
      obtain ⟨x, ex, dp⟩ := DpAll.get wk.r (show (s.pt.map Pt.d)[j]? = some p.d by rw [List.getElem?_map, ep]; rfl)
      have hb := pt_blk ep
      have at1 : ∀ {xs : List V}, atI (V.str s.kind :: rr) (1 + (j : Int)) = some x := fun {_} => at_of (j := j + 1) (by omega) ex
      refine gn ?_
      refine ⟨_, rfl, sa, _, 0, _, rfl, rfl, wk.t, atI_nat (j := 0) rfl, big 2 (by decide), fun t ht => ?_⟩
      have m := Gm.same_new ht (.tup [V.str "if", V.str "after"])
      refine ⟨t, _, rfl, .inr (SqT.of upd_same), rfl, rfl, _, rfl, ?_⟩
      rw [if_neg Bool.false_ne_true, i2]
      have wk := wk.same m
      have dp := dp_mono m _ _ dp
      revert wk dp
      generalize upd H3 t (.tup [V.str "if", V.str "after"]) = H4
      intro wk dp
      have fin : ∀ {u : V} {H5 : Hp}, Same H4 H5 → Dp K H5 u (p.nm r).d → ∃ ws, H5 W = some (.lst ws) ∧ ixN ws.length (1 + (j : Int)) = some (j + 1) ∧ Wk K H (upd H5 W (.lst (ws.set (j + 1) u))) F W sa vs rr (((b.l.take i).map fun s => s.nm r).map Stm.d) s (.str s.kind :: (s.pt.take (j + 1)).map (fun p => (p.nm r).d) ++ (s.pt.drop (j + 1)).map Pt.d) := fun m5 du => by
        have wk5 := wk.same m5
        obtain ⟨ws, e, d⟩ := wk5.w
        refine ⟨ws, e, ?_, ?_⟩
        · have l : ws.length = s.pt.length + 1 := by
            rw [DpAll.len d]
            simp only [List.cons_append, List.length_cons, List.length_append, List.length_map, List.length_take, List.length_drop]
            omega
          rw [show (1 + (j : Int)) = ((j + 1 : Nat) : Int) by omega]
          exact ix_in (by omega)
        · rw [pt_get ep]
          exact wk5.set e d (j + 1) du (Pt.nol _)
      by_cases hbb : ∃ x, p = .b x
      · have hk := hb.mp hbb
        obtain ⟨bb, rfl⟩ := hbb
        refine (fun kT => ite2 (fun _ => ⟨_, rfl, sa, _, 0, _, rfl, rfl, wk.t, atI_nat (j := 0) rfl, rfl, _, rfl, ite2 (fun _ => iteT kT) (fun zA => ⟨_, rfl, _, _, rfl, rfl, _, rfl, ite2 (fun _ => kT) (fun zB => by
          rcases hk with ⟨_, h0⟩ | h1
          · exact absurd (decide_eq_true (by omega)) zB
          · exact absurd (decide_eq_true (congrArg V.str h1)) zA)⟩)⟩) (fun z => absurd (decide_eq_true (hk.imp (fun h => h.1) id)) z)) ?_
        obtain ⟨jj, ejj, fb', tb⟩ := pt_b_fit fs ep
        refine ⟨_, rfl, _, rfl, sa, _, _, _, rfl, rfl, wk.t, at1 (xs := []), _, rfl, _, rfl, _, rfl, hsp jj ejj _ _ _ _ ⟨x, bb, r, rfl, dp, fb', by omega, fun u H5 m5 du => ?_⟩⟩
        obtain ⟨ws, e5, ix5, wk5⟩ := fin m5 du
        exact ⟨_, rfl, _, rfl, W, ws, _, _, rfl, rfl, e5, ix5, _, _, rfl, wk5⟩
      · have hk := fun z => hbb (hb.mpr z)
        refine (fun kE => ite2 (fun z => ⟨_, rfl, sa, _, 0, _, rfl, rfl, wk.t, atI_nat (j := 0) rfl, rfl, _, rfl, ite2 (fun zA => absurd (.inr (V.str.inj (of_decide_eq_true zA))) hk) (fun zA => ⟨_, rfl, _, _, rfl, rfl, _, rfl, ite2 (fun zB => by
          have zB := of_decide_eq_true zB
          rcases of_decide_eq_true z with z | z
          · exact absurd (.inl ⟨z, by omega⟩) hk
          · exact absurd (.inr z) hk) (fun _ => kE)⟩)⟩) (fun _ => iteF kE)) ?_
        cases p with
        | b x => exact absurd ⟨x, rfl⟩ hbb
        | e y =>
          obtain ⟨ya, yr, rfl, hy⟩ := ex_inv dp
          refine ⟨_, rfl, _, rfl, sa, _, _, _, rfl, rfl, wk.t, at1 (xs := []), _, .ty "tuple", .type "tuple", .type "tuple", true, rfl, .ty _, ty_tup hy, kit_ty (by decide +kernel), true, rfl, iteT ?_⟩
          refine ⟨_, rfl, _, rfl, sa, _, _, _, rfl, rfl, wk.t, at1 (xs := []), _, rfl, _, rfl, _, rfl, _, y, r, rfl, dp, pt_e_fit fs ep, fun u H5 m5 du => ?_⟩
          obtain ⟨ws, e5, ix5, wk5⟩ := fin m5 du
          exact ⟨_, rfl, _, rfl, W, ws, _, _, rfl, rfl, e5, ix5, _, _, rfl, wk5⟩
        | s y =>
          obtain rfl := dp_s dp
          refine ⟨_, rfl, _, rfl, sa, _, _, _, rfl, rfl, wk.t, at1 (xs := []), _, .ty "tuple", .type "str", .type "tuple", false, rfl, .ty _, .base (.str y), kit_ty (by decide +kernel), false, rfl, iteF ⟨_, _, rfl, by rw [pt_skip ep rfl]; exact wk⟩⟩
        | i y =>
          obtain rfl := dp_i dp
          refine ⟨_, rfl, _, rfl, sa, _, _, _, rfl, rfl, wk.t, at1 (xs := []), _, .ty "tuple", .type "int", .type "tuple", false, rfl, .ty _, .base (.int y), kit_ty (by decide +kernel), false, rfl, iteF ⟨_, _, rfl, by rw [pt_skip ep rfl]; exact wk⟩⟩
    rintro σ H3 ⟨y7, y8, rfl, wk⟩
    rw [List.take_length, List.drop_length, show (PyData.str s.kind :: s.pt.map (fun p => (p.nm r).d) ++ ([] : List Pt).map Pt.d) = es0 r s from by unfold es0; rw [List.map_map]; simp] at wk
    refine fun p hp => ⟨upd_same, [((.inr "set" : Key), V.str "variable"), (.inr "put", .str "table")], rfl, by decide, ?_⟩
    have md : Same H3 (upd (upd H3 p (.dK [])) p (.dK (mergeK [] [((.inr "set" : Key), V.str "variable"), (.inr "put", .str "table")]))) := fun b o e => by rw [upd_ne (ne_of_none e hp), upd_ne (ne_of_none e hp)]; exact e
    have wk := wk.same md
    have ed : (upd (upd H3 p (.dK [])) p (.dK (mergeK [] [((.inr "set" : Key), V.str "variable"), (.inr "put", .str "table")]))) p = _ := upd_same
    revert wk ed
    generalize upd (upd H3 p (.dK [])) p (.dK (mergeK [] [((.inr "set" : Key), V.str "variable"), (.inr "put", .str "table")])) = H4
    intro wk ed
    refine ⟨p, rfl, .inl ⟨_, .inl ed⟩, _, rfl, sa, _, 0, _, rfl, rfl, wk.t, atI_nat (j := 0) rfl, _, DGet.k (k := .inr s.kind) ed, ?_⟩
    rw [first_at]
    refine gn ?_
    have ixw : ∀ {ws : List V} {H' : Hp} {es : List PyData} {k : Nat}, DpAll K H' ws es → es.length = s.pt.length + 1 → k < s.pt.length + 1 → ixN ws.length (k : Int) = some k := fun d e h => ix_in (by rw [DpAll.len d, e]; exact h)
    have le0 : (es0 r s).length = s.pt.length + 1 := by unfold es0; rw [List.length_cons, List.length_map, List.length_map]
    have le1 : (es1 r s).length = s.pt.length + 1 := by unfold es1; split <;> (try rw [List.length_set]) <;> exact le0
    try dsimp only
    refine seq_k (fun σ H' => σ = [some (.ref a), some (.str r.k), some (.str r.o), some (.str r.n), some (.ref F), some (.ref sa), some (.ref W), y7, some (.str (firstOf s.kind))] ∧ Wk K H H' F W sa vs rr (((b.l.take i).map fun s => s.nm r).map Stm.d) s (es1 r s)) ?_ (fun k1 => ?_)
    rotate_left
    · refine ⟨_, rfl, sa, _, 0, _, rfl, rfl, wk.t, atI_nat (j := 0) rfl, big 5 (by decide), fun t ht => ?_⟩
      have m := Gm.same_new ht (.tup [V.str "set", V.str "let", V.str "draw", V.str "put", V.str "lot"])
      refine ⟨t, _, rfl, .inr (SqT.of upd_same), rfl, rfl, _, rfl, ?_⟩
      rw [if_neg Bool.false_ne_true, i5]
      have wk := wk.same m
      revert wk
      generalize upd H4 t (.tup [V.str "set", V.str "let", V.str "draw", V.str "put", V.str "lot"]) = H5
      intro wk
      have no : ¬ C1 r s → Wk K H H5 F W sa vs rr (((b.l.take i).map fun s => s.nm r).map Stm.d) s (es1 r s) := fun c => by
        unfold es1
        rw [if_neg c]
        exact wk
      refine ite2 (fun z1 => ?_) (fun z1 => iteF (k1 _ _ ⟨rfl, no fun c => z1 (decide_eq_true c.1)⟩))
      have z1 := of_decide_eq_true z1
      obtain ⟨x1, p1, e1⟩ := five_pt z1
      refine ⟨_, rfl, _, rfl, rfl, _, rfl, ite2 (fun z2 => ?_) (fun z2 => iteF (k1 _ _ ⟨rfl, no fun c => z2 (decide_eq_true (congrArg V.str c.2.1))⟩))⟩
      have z2 := V.str.inj (of_decide_eq_true z2)
      have dr5 := wk.r
      rw [e1] at dr5
      obtain ⟨u1, r1, er, d1', _⟩ := dps_cons dr5
      obtain rfl := dp_s d1'
      subst er
      refine ⟨_, rfl, sa, _, 1, _, rfl, rfl, wk.t, atI_nat (j := 1) rfl, _, rfl, rfl, _, rfl, ite2 (fun z3 => ?_) (fun z3 => k1 _ _ ⟨rfl, no fun c => ?_⟩)⟩
      · have z3 := V.str.inj (of_decide_eq_true z3)
        obtain ⟨ws, ew, dw⟩ := wk.w
        refine ⟨_, rfl, _, rfl, W, ws, _, _, rfl, rfl, ew, ixw (k := 1) dw le0 (by rw [e1, List.length_cons]; omega), k1 _ _ ⟨rfl, ?_⟩⟩
        have w1 := wk.set ew dw 1 (u := .str r.n) (x := .str r.n) (.str _) rfl
        unfold es1
        rw [if_pos ⟨z1, z2, p1, by rw [e1, z3]⟩]
        exact w1
      · obtain ⟨_, _, q', e'⟩ := c
        rw [e1] at e'
        injection e' with e' _
        injection e' with e'
        exact z3 (decide_eq_true (congrArg V.str e'))
    clear wk ed md hp
    rintro σ H5 ⟨rfl, wk⟩
    try dsimp only
    refine seq_k (fun σ H' => σ = [some (.ref a), some (.str r.k), some (.str r.o), some (.str r.n), some (.ref F), some (.ref sa), some (.ref W), y7, some (.str (firstOf s.kind))] ∧ Wk K H H' F W sa vs rr (((b.l.take i).map fun s => s.nm r).map Stm.d) s (es2 r s)) ?_ (fun k1 => ?_)
    rotate_left
    · have no : ¬ C2 r s → Wk K H H5 F W sa vs rr (((b.l.take i).map fun s => s.nm r).map Stm.d) s (es2 r s) := fun c => by
        unfold es2
        rw [if_neg c]
        exact wk
      refine ⟨_, rfl, sa, _, 0, _, rfl, rfl, wk.t, atI_nat (j := 0) rfl, rfl, _, rfl, ite2 (fun z1 => ?_) (fun z1 => iteF (k1 _ _ ⟨rfl, no fun c => z1 (decide_eq_true (congrArg V.str c.1))⟩))⟩
      have z1 := V.str.inj (of_decide_eq_true z1)
      obtain ⟨x1, o1, e1, es1'⟩ := lot_pt z1
      have ept : s.pt = [.s x1, .s o1, .e e1] := by rw [es1']; rfl
      refine ⟨_, rfl, rfl, _, rfl, ite2 (fun z2 => ?_) (fun z2 => iteF (k1 _ _ ⟨rfl, no fun c => z2 (decide_eq_true (congrArg V.str c.2.1))⟩))⟩
      have z2 := V.str.inj (of_decide_eq_true z2)
      have dr5 := wk.r
      rw [ept] at dr5
      obtain ⟨u1, r1, er, d1', dr5⟩ := dps_cons dr5
      obtain ⟨u2, r2, er2, d2', _⟩ := dps_cons dr5
      obtain rfl := dp_s d2'
      subst er2
      subst er
      refine ⟨_, rfl, sa, _, 2, _, rfl, rfl, wk.t, atI_nat (j := 2) rfl, _, rfl, rfl, _, rfl, ite2 (fun z3 => ?_) (fun z3 => k1 _ _ ⟨rfl, no fun c => ?_⟩)⟩
      · have z3 := V.str.inj (of_decide_eq_true z3)
        obtain ⟨ws, ew, dw⟩ := wk.w
        refine ⟨_, rfl, _, rfl, W, ws, _, _, rfl, rfl, ew, ixw (k := 2) dw le1 (by rw [ept]; show 2 < 3 + 1; decide), k1 _ _ ⟨rfl, ?_⟩⟩
        have w1 := wk.set ew dw 2 (u := .str r.n) (x := .str r.n) (.str _) rfl
        unfold es2
        rw [if_pos ⟨z1, z2, _, _, by rw [ept, z3]⟩]
        exact w1
      · obtain ⟨_, _, y, q', e'⟩ := c
        rw [ept] at e'
        injection e' with _ e'
        injection e' with e' _
        injection e' with e'
        exact z3 (decide_eq_true (congrArg V.str e'))
    clear wk
    rintro σ H6 ⟨rfl, wk⟩
    obtain ⟨ws, ew, dw⟩ := wk.w
    have lv : vs.length ≤ 100 := by
      have := wk.a.len
      rw [List.length_map, List.length_map, List.length_take] at this
      omega
    refine ⟨_, rfl, .inl ⟨rfl, _, SqL.of wk.a.l⟩, _, rfl, W, ws, rfl, .inl ⟨SqL.of ew, fun tp htp => ?_⟩⟩
    have m7 := Gm.same_new htp (.tup ws)
    have ac7 := wk.a.grow m7
    have d7 : Dp K (upd H6 tp (.tup ws)) (.ref tp) (s.nm r).d := by
      rw [es_fin]
      exact dp_tup htp dw
    refine ⟨F, vs, _, rfl, rfl, ac7.l, big' _ (by omega), vs ++ [V.ref tp], _, _, _, _, rfl, ?_⟩
    rw [take_more es, List.map_append, List.map_append]
    exact ac7.add d7 (Stm.nol _)
  · rintro σ H1 ⟨vs, y5, y6, y7, y8, rfl, ac⟩
    rw [lx, List.take_length] at ac
    refine ⟨_, rfl, F, vs, rfl, .inl ⟨SqL.of ac.l, fun tp htp => ?_⟩⟩
    refine q _ _ (ac.s.trans (Gm.same_new htp _)) ?_
    show Dp K _ (.ref tp) (.tuple (b.nm r).ds)
    rw [Blk.ds_l, nm_l]
    exact dp_tup htp ac.d
theorem ok_bn (T : Txt K mg file) : ∀ n : Nat, FnOk P w K mg base CX0 (n + 9) T.a_law_block_named T.fd_law_block_named ["block", "kind", "old", "new"] (spBN K n)
  | 0 => bn_of T (fun _ _ _ _ => False) ⟨fun _ _ _ _ h => h.elim, fun _ _ _ _ _ _ _ _ _ _ _ _ _ h => h.elim⟩ (fun j h => absurd h (by omega))
  | n + 1 => bn_of T _ (ok_bn T n) (fun j h vs H Q E q => by
      obtain rfl : n = j := by omega
      exact q)
end
end Toy
set_option Elab.async false
set_option linter.all false
/-! Walks whose written part is named: a list, a tuple, either. -/
namespace Mine
open PySem PySem.Calls L2 PyProof.Rows
section
variable {X : Cx} {tg l : Expr} {tl : TE}
theorem pi_listK (K : PySem.W.Frag) (h : X.K = K) (hl : PE X l tl) : PI X tg l (iList K tl) := by subst h; exact pi_list hl
theorem pi_tupK (K : PySem.W.Frag) (h : X.K = K) (hl : PE X l tl) : PI X tg l (iTup K tl) := by subst h; exact pi_tup hl
noncomputable def iSeq (K : PySem.W.Frag) (tl : TE) : TI := fun σ H R => iList K tl σ H R ∨ iTup K tl σ H R
theorem pi_seqK (K : PySem.W.Frag) (h : X.K = K) (hl : PE X l tl) : PI X tg l (iSeq K tl) := by
  refine ⟨fun pins s σ H Q I h => ?_⟩
  rcases h with h | h
  · exact (pi_listK K ‹_› hl).run pins s σ H Q I h
  · exact (pi_tupK K ‹_› hl).run pins s σ H Q I h
end
end Mine
set_option Elab.async false
set_option linter.all false
set_option maxRecDepth 100000
set_option maxHeartbeats 8000000
namespace Toy
open PySem L2 NdefX Gm
open Mine hiding same_new
open Pz (But)
theorem call_listK {X : Cx} (K : PySem.W.Frag) (h : X.K = K) : CallR X (.type "list") (fun xs H Q => ∃ p ys, xs = [.ref p] ∧ (SqL K H p ys ∨ SqT K H p ys) ∧ ∀ l, H l = none → Q (.ref l) (upd H l (.lst ys))) := by subst h; exact call_list_of
theorem call_tupleK {X : Cx} (K : PySem.W.Frag) (h : X.K = K) : CallR X (.type "tuple") (fun xs H Q => ∃ p ys, xs = [.ref p] ∧ ((SqL K H p ys ∧ ∀ l, H l = none → Q (.ref l) (upd H l (.tup ys))) ∨ (SqT K H p ys ∧ Q (.ref p) H))) := by subst h; exact call_tuple_of
def kinds : List Str := ["variable", "table", "lots", "local"]
def spLN (K : PySem.W.Frag) : Sp := fun vs H Q _ => ∃ (v : V) (G : Ga) (r : Rnm), vs = [v, .str r.k, .str r.o, .str r.n] ∧ Dp K H v G.d ∧ GaF 6 6 G ∧ r.k ∈ kinds ∧ (∀ p ∈ G.procs, p.block.tot ≤ 100 ∧ p.locs.length ≤ 100) ∧ (G.vars.length ≤ 100 ∧ G.tabs.length ≤ 100 ∧ G.lots.length ≤ 100 ∧ G.procs.length ≤ 100) ∧ ∀ (u : V) (H' : Hp), Same H H' → Dp K H' u (G.nm r).d → Q u H'
theorem pr6 {K : PySem.W.Frag} {H : Hp} {v : V} {p : Pr} (h : Dp K H v p.d) : ∃ (a : Addr) (vl vb vr : V), v = .ref a ∧ SqT K H a [.str p.name, .int p.size, .int p.ans, vl, vb, vr] ∧ Dp K H vl (strD p.locs) ∧ Dp K H vb p.block.d ∧ Dp K H vr p.res.d := by
  unfold Pr.d at h
  obtain ⟨a, xs, rfl, hs, dx⟩ := dp_inv h
  obtain ⟨u1, r, rfl, d1, dx⟩ := dps_cons dx
  obtain ⟨u2, r, rfl, d2, dx⟩ := dps_cons dx
  obtain ⟨u3, r, rfl, d3, dx⟩ := dps_cons dx
  obtain ⟨u4, r, rfl, d4, dx⟩ := dps_cons dx
  obtain ⟨u5, r, rfl, d5, dx⟩ := dps_cons dx
  obtain ⟨u6, r, rfl, d6, dx⟩ := dps_cons dx
  have e := dps_nil dx
  subst e
  rw [dp_s d1, dp_i d2, dp_i d3] at hs
  exact ⟨a, u4, u5, u6, rfl, hs, d4, d5, d6⟩
theorem pr6_mk {K : PySem.W.Frag} {H : Hp} {a : Addr} {vl vb vr : V} {p : Pr} (hs : SqT K H a [.str p.name, .int p.size, .int p.ans, vl, vb, vr]) (d1 : Dp K H vl (strD p.locs)) (d2 : Dp K H vb p.block.d) (d3 : Dp K H vr p.res.d) : Dp K H (.ref a) p.d :=
  .tup hs (.cons (.str _) (.cons (.int _) (.cons (.int _) (.cons d1 (.cons d2 (.cons d3 .nil))))))
/-- a list of lists of rows -/
structure Rw (K : PySem.W.Frag) (H : Hp) (D : Addr) (vs : List V) (rs : List (List (Str × Int × Int))) : Prop where
  d : H D = some (.lst vs)
  l : vs.length = rs.length
  r : ∀ (j : Nat) (rows : List (Str × Int × Int)), rs[j]? = some rows → ∃ (l : Addr) (xs : List V), vs[j]? = some (.ref l) ∧ H l = some (.lst xs) ∧ DpAll K H xs (rows.map trip) ∧ l ≠ D
section
variable {K : PySem.W.Frag} {H H' : Hp} {D l : Addr} {vs xs : List V} {rs : List (List (Str × Int × Int))} {rows : List (Str × Int × Int)}
theorem Rw.same (h : Rw K H D vs rs) (m : Same H H') : Rw K H' D vs rs := ⟨m _ _ h.d, h.l, fun j rows e => by
  obtain ⟨l, xs, a, b, c, n⟩ := h.r j rows e
  exact ⟨l, xs, a, m _ _ b, dp_monoAll m _ _ c, n⟩⟩
theorem Rw.put (h : Rw K H D vs rs) {ws : List V} {qs : List (List (Str × Int × Int))} (hl : ws.length = qs.length) (hr : ∀ (j : Nat) (rows : List (Str × Int × Int)), qs[j]? = some rows → ∃ (l : Addr) (xs : List V), ws[j]? = some (.ref l) ∧ H l = some (.lst xs) ∧ DpAll K H xs (rows.map trip) ∧ l ≠ D) : Rw K (upd H D (.lst ws)) D ws qs :=
  ⟨upd_same, hl, fun j rows e => by
    obtain ⟨l, xs, a, b, c, n⟩ := hr j rows e
    exact ⟨l, xs, a, by rw [upd_ne n]; exact b, dp_tupsAll (Tups.lst h.d) _ _ (nolAll_trips _) c, n⟩⟩
theorem Rw.add (h : Rw K H D vs rs) (e : H l = some (.lst xs)) (d : DpAll K H xs (rows.map trip)) (n : l ≠ D) : Rw K (upd H D (.lst (vs ++ [.ref l]))) D (vs ++ [.ref l]) (rs ++ [rows]) := by
  refine h.put (by rw [List.length_append, List.length_append, h.l]; rfl) fun j q ej => ?_
  by_cases hj : j < rs.length
  · rw [List.getElem?_append_left hj] at ej
    obtain ⟨l', xs', a, b, c, n'⟩ := h.r j q ej
    exact ⟨l', xs', by rw [List.getElem?_append_left (by rw [h.l]; exact hj)]; exact a, b, c, n'⟩
  · rw [List.getElem?_append_right (by omega)] at ej
    have hz : j - rs.length = 0 := by
      have := (List.getElem?_eq_some_iff.mp ej).1
      simp at this
      exact this
    rw [hz] at ej
    cases ej
    exact ⟨l, xs, by rw [List.getElem?_append_right (by rw [h.l]; omega), h.l, hz]; rfl, e, d, n⟩
theorem Rw.set (h : Rw K H D vs rs) (i : Nat) (e : H l = some (.lst xs)) (d : DpAll K H xs (rows.map trip)) (n : l ≠ D) : Rw K (upd H D (.lst (vs.set i (.ref l)))) D (vs.set i (.ref l)) (rs.set i rows) := by
  refine h.put (by rw [List.length_set, List.length_set, h.l]) fun j q ej => ?_
  by_cases hj : i = j
  · subst hj
    have hi := (List.getElem?_eq_some_iff.mp ej).1
    rw [List.length_set] at hi
    rw [List.getElem?_set_self hi] at ej
    cases ej
    exact ⟨l, xs, List.getElem?_set_self (by rw [h.l]; exact hi), e, d, n⟩
  · rw [List.getElem?_set_ne hj] at ej
    obtain ⟨l', xs', a, b, c, n'⟩ := h.r j q ej
    exact ⟨l', xs', by rw [List.getElem?_set_ne hj]; exact a, b, c, n'⟩
end
def idxK (k : Str) : Nat := if k = "variable" then 0 else if k = "table" then 1 else if k = "lots" then 2 else 0
theorem idx_at (k : Str) : (valV (mergeK [] [((.inr "variable" : Key), V.int 0), (.inr "table", .int 1), (.inr "lots", .int 2)]) (.inr k : Key)).getD (.int 0) = .int ((idxK k : Nat) : Int) := by
  have e : mergeK [] [((.inr "variable" : Key), V.int 0), (.inr "table", .int 1), (.inr "lots", .int 2)] = [((.inr "variable" : Key), V.int 0), (.inr "table", .int 1), (.inr "lots", .int 2)] := by decide +kernel
  rw [e]
  unfold valV idxK
  by_cases h1 : k = "variable"
  · rw [List.find?_cons_of_pos (by exact decide_eq_true (congrArg Sum.inr h1.symm)), if_pos h1]
    rfl
  rw [List.find?_cons_of_neg (by intro z; exact h1 (Sum.inr.inj (of_decide_eq_true z)).symm), if_neg h1]
  by_cases h2 : k = "table"
  · rw [List.find?_cons_of_pos (by exact decide_eq_true (congrArg Sum.inr h2.symm)), if_pos h2]
    rfl
  rw [List.find?_cons_of_neg (by intro z; exact h2 (Sum.inr.inj (of_decide_eq_true z)).symm), if_neg h2]
  by_cases h3 : k = "lots"
  · rw [List.find?_cons_of_pos (by exact decide_eq_true (congrArg Sum.inr h3.symm)), if_pos h3]
    rfl
  rw [List.find?_cons_of_neg (by intro z; exact h3 (Sum.inr.inj (of_decide_eq_true z)).symm), if_neg h3]
  rfl
def rs3 (G : Ga) : List (List (Str × Int × Int)) := [G.vars, G.tabs, G.lots]
theorem nm_local {r : Rnm} {G : Ga} (h : r.k = "local") : rs3 (G.nm r) = rs3 G ∧ (G.nm r).procs = G.procs.map (Pr.nmL r) := by
  unfold Ga.nm
  rw [if_pos h]
  exact ⟨rfl, rfl⟩
theorem nm_rows {r : Rnm} {G : Ga} (hk : r.k ∈ kinds) (h : r.k ≠ "local") : ∃ rows, (rs3 G)[idxK r.k]? = some rows ∧ rs3 (G.nm r) = (rs3 G).set (idxK r.k) (rowsNm r rows) ∧ (G.nm r).procs = G.procs.map (Pr.nm r) ∧ idxK r.k < 3 := by
  have n5 : ("variable" : Str) ≠ "table" := by decide +kernel
  have n6 : ("variable" : Str) ≠ "lots" := by decide +kernel
  have n3 : ("lots" : Str) ≠ "table" := by decide +kernel
  unfold Ga.nm idxK
  rw [if_neg h]
  have hk : r.k = "variable" ∨ r.k = "table" ∨ r.k = "lots" := by
    simp [kinds] at hk
    rcases hk with hk | hk | hk | hk
    · exact .inl hk
    · exact .inr (.inl hk)
    · exact .inr (.inr hk)
    · exact absurd hk h
  rcases hk with e | e | e
  · exact ⟨G.vars, by simp [e, n5, n6, rs3]⟩
  · exact ⟨G.tabs, by simp [e, n5.symm, rs3]⟩
  · exact ⟨G.lots, by simp [e, n3, n6.symm, rs3]⟩
theorem pick_c {o n x : Str} : atI [V.str x, V.str n] (if (decide (V.str x = V.str o)) = true then 1 else 0) = some (.str (if x = o then n else x)) := by
  by_cases e : x = o
  · rw [if_pos (decide_eq_true (congrArg V.str e)), if_pos e]
    rfl
  · rw [if_neg (fun z => e (V.str.inj (of_decide_eq_true z))), if_neg e]
    rfl
section
variable {P : Program} {w : World} {K : PySem.W.Frag} {mg : Str → Option Value} {base : Heap} {file : Str}
theorem ok_ln (T : Txt K mg file) : FnOk P w K mg base CX0 20 T.a_law_named T.fd_law_named ["game", "kind", "old", "new"] (spLN K) := by
  have G_law_value_named : FnOk P w K mg base CX0 7 T.a_law_value_named T.fd_law_value_named ["due", "kind", "old", "new"] (spVN K 6) := ok_vn T 6
  have G_law_block_named : FnOk P w K mg base CX0 15 T.a_law_block_named T.fd_law_block_named ["block", "kind", "old", "new"] (spBN K 6) := ok_bn T 6
  refine T.F_law_named.ok sc_law_named (fun vs H Q E h => ?_) (fun cdv A outer s H vs Q E hr h => ?_)
  · obtain ⟨v, b, r, rfl, _⟩ := h
    rfl
  obtain ⟨v, G, r, rfl, dv, fG, hk, hp, hl, q⟩ := h
  refine ⟨_, (pss_cons (ps_setLc (i := 4) (own := [("proc", 5)]) (g := gName 5) (tt := tYes) rfl sc_law_named.nd rfl rfl (sw_true rfl rfl rfl (by decide +kernel)) (pi_tup (pe_ix ix_tup (pv 0) pe_int (fun _ _ => rfl))) (blkOk_by (own := [("proc", 5)]) (N := ["game", "kind", "old", "new", "procs", "proc", "rows", "part", "at", "row", "name"]) (sc := defScope s_law_named) (by decide +kernel)) (fun _ _ _ _ _ => pg_name (i := 5) sc_law_named.nd rfl (Or.inl rfl)) (fun _ _ _ _ _ => pts_nil) (fun _ _ _ _ _ => (pe_op (CatB.op_catB K rfl) (pe_slice (slTB K rfl) (pv 5) po_none (po_some pe_int)) (pe_tup (pa_cons (pe_call G_law_block_named (hr.mono (by omega)) rfl T.g_law_block_named T.k_law_block_named T.b_law_block_named .nil pass0 (pa_cons (pe_ix (ixtK K rfl) (pv 5) pe_int (fun _ _ => rfl)) (pa_cons (pv 1) (pa_cons (pv 2) (pa_cons (pv 3) pa_nil))))) (pa_cons (pe_call G_law_value_named (hr.mono (by omega)) rfl T.g_law_value_named T.k_law_value_named T.b_law_value_named .nil pass0 (pa_cons (pe_ix (ixtK K rfl) (pv 5) pe_int (fun _ _ => rfl)) (pa_cons (pv 1) (pa_cons (pv 2) (pa_cons (pv 3) pa_nil))))) pa_nil))))))
    (pss_cons (ps_setLc (i := 6) (own := [("part", 7)]) (g := gName 7) (tt := tYes) rfl sc_law_named.nd rfl rfl (sw_true rfl rfl rfl (by decide +kernel)) (pi_tup (pe_slice (slTB K rfl) (pv 0) po_none (po_some pe_int))) (blkOk_by (own := [("part", 7)]) (N := ["game", "kind", "old", "new", "procs", "proc", "rows", "part", "at", "row", "name"]) (sc := defScope s_law_named) (by decide +kernel)) (fun _ _ _ _ _ => pg_name (i := 7) sc_law_named.nd rfl (Or.inl rfl)) (fun _ _ _ _ _ => pts_nil) (fun _ _ _ _ _ => (pe_callTy (call_listK K rfl) (by rfl) T.z_list (by decide +kernel) (pa_cons (pv 7) pa_nil))))
    (pss_cons (ps_set (i := 8) sc_law_named.nd rfl (Or.inl rfl) (pe_dget2 (hu_of hr) (pe_disp (pps_cons pe_str pe_int (pps_cons pe_str pe_int (pps_cons pe_str pe_int pps_nil))) (by rfl) (by rfl) (fun z => by cases z) (by decide)) (pv 1) pe_int ⟨by rfl, by rfl, by rfl, by rfl⟩))
    (pss_cons (ps_if (pt_cmpR op_ne (pv 1) pe_str (nomark _))
      (pss_one (ps_asg (pe_lc (own := [("row", 9)]) (g := gName 9) (tt := tYes) rfl sc_law_named.nd (pi_list (pe_ix ix_list (pv 6) (pv 8) (fun _ _ => rfl))) (blkOk_by (own := [("row", 9)]) (N := ["game", "kind", "old", "new", "procs", "proc", "rows", "part", "at", "row", "name"]) (sc := defScope s_law_named) (by decide +kernel)) (fun _ _ _ _ _ => pg_name (i := 9) sc_law_named.nd rfl (Or.inl rfl)) (fun _ _ _ _ _ => pts_nil) (fun _ _ _ _ _ => (pe_op (CatB.op_catB K rfl) (pe_tup (pa_cons (pe_ix (ixtK K rfl) (pe_tup (pa_cons (pe_ix (ixtK K rfl) (pv 9) pe_int (fun _ _ => rfl)) (pa_cons (pv 3) pa_nil))) (pe_callTy call_int1 (by rfl) T.z_int (by decide +kernel) (pa_cons (pe_cmpR op_eq (pe_ix (ixtK K rfl) (pv 9) pe_int (fun _ _ => rfl)) (pv 2) (nomark _)) pa_nil)) (fun _ _ => rfl)) pa_nil)) (pe_slice (slTB K rfl) (pv 9) (po_some pe_int) po_none)))) (pg_sub (pv 6) (pv 8) set_list)))
      (pss_one (ps_setLc (i := 4) (own := [("proc", 5)]) (g := gName 5) (tt := tYes) rfl sc_law_named.nd rfl rfl (sw_true rfl rfl rfl (by decide +kernel)) (pi_list (pv 4)) (blkOk_by (own := [("proc", 5)]) (N := ["game", "kind", "old", "new", "procs", "proc", "rows", "part", "at", "row", "name"]) (sc := defScope s_law_named) (by decide +kernel)) (fun _ _ _ _ _ => pg_name (i := 5) sc_law_named.nd rfl (Or.inl rfl)) (fun _ _ _ _ _ => pts_nil) (fun _ _ _ _ _ => (pe_op (CatB.op_catB K rfl) (pe_op (CatB.op_catB K rfl) (pe_slice (slTB K rfl) (pv 5) po_none (po_some pe_int)) (pe_tup (pa_cons (pe_callTy (call_tupleK K rfl) (by rfl) T.z_tuple (by decide +kernel) (pa_cons (pe_lc (own := [("name", 10)]) (g := gName 10) (tt := tYes) rfl sc_law_named.nd (pi_tupK K rfl (pe_ix (ixtK K rfl) (pv 5) pe_int (fun _ _ => rfl))) (blkOk_by (own := [("name", 10)]) (N := ["game", "kind", "old", "new", "procs", "proc", "rows", "part", "at", "row", "name"]) (by rfl)) (fun _ _ _ _ _ => pg_name (i := 10) sc_law_named.nd rfl (Or.inl rfl)) (fun _ _ _ _ _ => pts_nil) (fun _ _ _ _ _ => (pe_ix (ixtK K rfl) (pe_tup (pa_cons (pv 10) (pa_cons (pv 3) pa_nil))) (pe_callTy call_int1 (by rfl) T.z_int (by decide +kernel) (pa_cons (pe_cmpR op_eq (pv 10) (pv 2) (nomark _)) pa_nil)) (fun _ _ => rfl)))) pa_nil)) pa_nil))) (pe_slice (slTB K rfl) (pv 5) (po_some pe_int) po_none))))))
    (pss_one (ps_ret (pe_op (CatB.op_catB K rfl) (pe_callTy call_tuple_of (by rfl) T.z_tuple (by decide +kernel) (pa_cons (pe_lc (own := [("part", 7)]) (g := gName 7) (tt := tYes) rfl sc_law_named.nd (pi_list (pv 6)) (blkOk_by (own := [("part", 7)]) (N := ["game", "kind", "old", "new", "procs", "proc", "rows", "part", "at", "row", "name"]) (sc := defScope s_law_named) (by decide +kernel)) (fun _ _ _ _ _ => pg_name (i := 7) sc_law_named.nd rfl (Or.inl rfl)) (fun _ _ _ _ _ => pts_nil) (fun _ _ _ _ _ => (pe_callTy (call_tupleK K rfl) (by rfl) T.z_tuple (by decide +kernel) (pa_cons (pv 7) pa_nil)))) pa_nil)) (pe_tup (pa_cons (pe_callTy call_tuple_of (by rfl) T.z_tuple (by decide +kernel) (pa_cons (pv 4) pa_nil)) pa_nil))))))))), ?_⟩
  obtain ⟨ga, v0, v1, v2, v3, rfl, hg, d0, d1, d2, d3⟩ := four_inv dv
  obtain ⟨pa, ps, rfl, hpa, dps⟩ := dp_inv d3
  have lps : ps.length = G.procs.length := (DpAll.len dps).trans (List.length_map _)
  refine ⟨_, rfl, ga, _, 3, _, rfl, rfl, hg, atI_nat (j := 3) rfl, pa, rfl, ⟨_, hpa⟩, fun D hD => ?_⟩
  refine lc_tup (K := K) (a := pa) (xs := ps) (fun i H' => ∃ us, Acc K H H' D us (((G.procs.take i).map (Pr.nm r)).map Pr.d)) ⟨[], Acc.start hD⟩ (fun i H' _ ⟨_, ac⟩ => sqT_mono ac.s hpa) ?_ ?_
  · rintro i x H' hx ⟨us, ac⟩
    have hi := (List.getElem?_eq_some_iff.mp hx).1
    obtain ⟨p, ep⟩ : ∃ p, G.procs[i]? = some p := ⟨G.procs[i]'(lps ▸ hi), List.getElem?_eq_getElem _⟩
    obtain ⟨x', ex, dp⟩ := DpAll.get dps (show (G.procs.map Pr.d)[i]? = some p.d by rw [List.getElem?_map, ep]; rfl)
    rw [hx] at ex
    cases ex
    have hm := List.mem_of_getElem? ep
    have fp := fG.procs p hm
    obtain ⟨ra, vl, vb, vr, rfl, hra, dl, db, dr⟩ := pr6 (dp_mono ac.s _ _ dp)
    have lus : us.length ≤ 100 := by
      have := ac.len
      rw [List.length_map, List.length_map, List.length_take] at this
      omega
    refine ⟨rfl, _, rfl, _, rfl, ra, _, rfl, hra, fun c1 H2 m2 hc1 => ?_⟩
    refine ⟨_, rfl, ra, _, 4, _, rfl, rfl, sqT_mono m2 hra, atI_nat (j := 4) rfl, _, rfl, _, rfl, _, rfl, vb, p.block, r, rfl, dp_mono m2 _ _ db, fp.block, (hp p hm).1, fun ub H3 m3 dub => ?_⟩
    refine ⟨_, rfl, ra, _, 5, _, rfl, rfl, sqT_mono (m2.trans m3) hra, atI_nat (j := 5) rfl, _, rfl, _, rfl, _, rfl, vr, p.res, r, rfl, dp_mono (m2.trans m3) _ _ dr, fp.res, fun ur H4 m4 dur => ?_⟩
    refine ⟨big 2 (by decide), fun t ht => ?_⟩
    have m5 := Gm.same_new ht (.tup [ub, ur])
    refine ⟨c1, t, _, _, rfl, rfl, sqT_mono (m3.trans (m4.trans m5)) hc1, SqT.of upd_same, by show 4 + 2 ≤ sizeLine; decide, fun c2 H6 m6 hc2 => ?_⟩
    have m26 := m2.trans (m3.trans (m4.trans (m5.trans m6)))
    have ac6 := ac.grow m26
    refine ⟨us, ac6.l, big' _ (by omega), us ++ [.ref c2], ?_⟩
    rw [take_more ep, List.map_append, List.map_append]
    exact ac6.add (d := (p.nm r).d) (pr6_mk (p := p.nm r) hc2 (dp_mono m26 _ _ dl) (dp_mono (m4.trans (m5.trans m6)) _ _ dub) (dp_mono (m5.trans m6) _ _ dur)) (Pr.nol _)
  rintro H1 ⟨us, ac⟩
  rw [lps, List.take_length] at ac
  refine gn ?_
  have rs : Same H H1 := ac.s
  refine ⟨_, rfl, _, rfl, ga, _, rfl, sqT_mono ac.s hg, fun c1 H2 m2 hc1 => ⟨c1, rfl, ⟨_, hc1⟩, fun R hR => ?_⟩⟩
  have hc1 : SqT K H2 c1 [v0, v1, v2] := hc1
  have ac0 : Same H H2 ∧ True := ⟨rs.trans m2, trivial⟩
  have nDR : D ≠ R := ne_of_none (m2 _ _ ac.l) hR
  have ac := ac.grow m2
  have dv3 : DpAll K H2 [v0, v1, v2] ((rs3 G).map trips) := dp_monoAll (rs.trans m2) _ _ (.cons d0 (.cons d1 (.cons d2 .nil)))
  have lens : ∀ rows ∈ rs3 G, rows.length ≤ 100 := fun rows m => by
    simp [rs3] at m
    rcases m with rfl | rfl | rfl
    · exact hl.1
    · exact hl.2.1
    · exact hl.2.2.1
  refine lc_tup (K := K) (a := c1) (xs := [v0, v1, v2]) (fun i H' => Same H2 H' ∧ ∃ vs, Rw K H' R vs ((rs3 G).take i)) ⟨Gm.same_new hR _, [], upd_same, rfl, fun j rows e => by cases e⟩ (fun i H' _ ⟨m, _⟩ => sqT_mono m hc1) ?_ ?_
  · rintro i x H3 hx ⟨m3, vs, rw3⟩
    have hi : i < 3 := (List.getElem?_eq_some_iff.mp hx).1
    obtain ⟨rows, er⟩ : ∃ rows, (rs3 G)[i]? = some rows := ⟨(rs3 G)[i]'hi, List.getElem?_eq_getElem _⟩
    obtain ⟨x', ex, dr⟩ := DpAll.get dv3 (show ((rs3 G).map trips)[i]? = some (trips rows) by rw [List.getElem?_map, er]; rfl)
    rw [hx] at ex
    cases ex
    obtain ⟨b, xs, rfl, hb, dxs⟩ := trips_inv (dp_mono m3 _ _ dr)
    have lv : vs.length ≤ 3 := by
      rw [rw3.l, List.length_take]
      omega
    refine ⟨rfl, _, rfl, b, xs, rfl, .inr hb, fun l hl' => ?_⟩
    have m4 := Gm.same_new hl' (.lst xs)
    have rw4 := rw3.same m4
    refine ⟨vs, rw4.d, big' _ (by omega), fun b o e => ?_, vs ++ [.ref l], ?_⟩
    · rw [upd_ne (ne_of_none e hR)]
      exact m4 _ _ (m3 _ _ e)
    · rw [take_more er]
      exact rw4.add upd_same (dp_monoAll m4 _ _ dxs) (ne_of_none rw3.d hl').symm
  rintro H3 ⟨m3, vs, rw3⟩
  have rw3 : Rw K H3 R vs (rs3 G) := rw3
  have ac := ac.grow m3
  have rs := rs.trans (m2.trans m3)
  have hR0 : H R = none := none_of_same ac0.1 hR
  refine gn ?_
  refine fun p hp' => ⟨upd_same, [((.inr "variable" : Key), V.int 0), (.inr "table", .int 1), (.inr "lots", .int 2)], rfl, by decide, ?_⟩
  have md : Same H3 (upd (upd H3 p (.dK [])) p (.dK (mergeK [] [((.inr "variable" : Key), V.int 0), (.inr "table", .int 1), (.inr "lots", .int 2)]))) := fun b o e => by rw [upd_ne (ne_of_none e hp'), upd_ne (ne_of_none e hp')]; exact e
  have ed : (upd (upd H3 p (.dK [])) p (.dK (mergeK [] [((.inr "variable" : Key), V.int 0), (.inr "table", .int 1), (.inr "lots", .int 2)]))) p = _ := upd_same
  have rw4 := rw3.same md
  have ac := ac.grow md
  have rs := rs.trans md
  revert ed rw4 ac rs
  generalize upd (upd H3 p (.dK [])) p (.dK (mergeK [] [((.inr "variable" : Key), V.int 0), (.inr "table", .int 1), (.inr "lots", .int 2)])) = H4
  intro ed rw4 ac rs
  refine ⟨p, rfl, .inl ⟨_, .inl ed⟩, _, rfl, _, DGet.k (k := .inr r.k) ed, ?_⟩
  rw [idx_at]
  refine gn ?_
  clear ed md rw3 m3 m2 dv3 hc1 hR
  try dsimp only
  refine seq_k (fun σ H' => ∃ (D' : Addr) (us vs : List V) (y5 y7 y9 y10 : Option V), σ = [some (.ref ga), some (.str r.k), some (.str r.o), some (.str r.n), some (.ref D'), y5, some (.ref R), y7, some (.int ((idxK r.k : Nat) : Int)), y9, y10] ∧ Same H H' ∧ H' D' = some (.lst us) ∧ DpAll K H' us ((G.nm r).procs.map Pr.d) ∧ Rw K H' R vs (rs3 (G.nm r))) ?_ (fun k1 => ?_)
  rotate_left
  · refine ⟨_, rfl, rfl, _, rfl, ?_⟩
    by_cases hloc : r.k = "local"
    · refine iteF2 (by simp [hloc]) ?_
      obtain ⟨n1, n2⟩ := nm_local (G := G) hloc
      refine ⟨_, rfl, D, rfl, ⟨_, SqL.of ac.l⟩, fun D2 hD2 => ?_⟩
      refine lc_list (K := K) (a := D) (xs := us) (fun i H' => ∃ ws, Acc K H4 H' D2 ws (((G.procs.take i).map (Pr.nmL r)).map Pr.d)) ⟨[], Acc.start hD2⟩ (fun i H' _ ⟨_, a2⟩ => SqL.of (a2.s _ _ ac.l)) ?_ ?_
      · rintro i x H5 hx ⟨ws, a2⟩
        have lus := DpAll.len ac.d
        rw [List.length_map, List.length_map] at lus
        have hi := (List.getElem?_eq_some_iff.mp hx).1
        obtain ⟨p, ep⟩ : ∃ p, G.procs[i]? = some p := ⟨G.procs[i]'(lus ▸ hi), List.getElem?_eq_getElem _⟩
        obtain ⟨x', ex, dp⟩ := DpAll.get ac.d (show ((G.procs.map (Pr.nm r)).map Pr.d)[i]? = some (p.nm r).d by rw [List.getElem?_map, List.getElem?_map, ep]; rfl)
        rw [hx] at ex
        cases ex
        obtain ⟨ra, vl, vb, vr, rfl, hra, dl, db, dr⟩ := pr6 (dp_mono a2.s _ _ dp)
        have lws : ws.length ≤ 100 := by
          have := a2.len
          rw [List.length_map, List.length_map, List.length_take] at this
          omega
        have ll := (hp p (List.mem_of_getElem? ep)).2
        refine ⟨rfl, _, rfl, _, rfl, ra, _, rfl, hra, fun c1 H6 m6 hc1 => ?_⟩
        have dl6 := dp_mono m6 _ _ dl
        obtain ⟨la, ls, rfl, hla, dls⟩ := dp_inv dl6
        rw [dps_strs dls] at hla
        refine ⟨_, rfl, ra, _, 3, _, rfl, rfl, sqT_mono m6 hra, atI_nat (j := 3) rfl, la, rfl, ⟨_, hla⟩, fun D3 hD3 => ?_⟩
        refine lc_tup (K := K) (a := la) (xs := p.locs.map V.str) (fun j H' => Same H6 H' ∧ H' D3 = some (.lst (((p.locs.take j).map fun x => if x = r.o then r.n else x).map V.str))) ⟨Gm.same_new hD3 _, upd_same⟩ (fun j H' _ h => sqT_mono h.1 hla) ?_ ?_
        · rintro j x H7 hx ⟨m7, e7⟩
          rw [List.getElem?_map] at hx
          obtain ⟨y, ey, rfl⟩ := Option.map_eq_some_iff.mp hx
          refine ⟨rfl, _, rfl, _, rfl, big 2 (by decide), fun t1 h1 => ?_⟩
          have m8 := Gm.same_new h1 (.tup [V.str y, V.str r.n])
          refine ⟨_, rfl, _, rfl, rfl, .inr ⟨_, rfl, t1, _, _, _, rfl, rfl, SqT.of upd_same, pick_c, _, m8 _ _ e7, ?_, fun b o e => ?_, ?_⟩⟩
          · rw [List.length_map, List.length_map, List.length_take]
            exact big' _ (by omega)
          · rw [upd_ne (ne_of_none e hD3)]
            exact m8 _ _ (m7 _ _ e)
          · rw [upd_same, take_more ey, List.map_append, List.map_append]
            rfl
        rintro H7 ⟨m7, e7⟩
        rw [List.length_map, List.take_length] at e7
        refine ⟨D3, _, rfl, .inl ⟨SqL.of e7, fun tl htl => ⟨big 1 (by decide), fun t1 ht1 => ?_⟩⟩⟩
        have m8 := Gm.same_new htl (.tup ((p.locs.map fun x => if x = r.o then r.n else x).map V.str))
        have dl8 : Dp K _ (.ref tl) (strD (p.locs.map fun x => if x = r.o then r.n else x)) := dp_tup htl (dp_strs _)
        have m9 := Gm.same_new ht1 (.tup [V.ref tl])
        refine ⟨c1, t1, _, _, rfl, rfl, sqT_mono (m7.trans (m8.trans m9)) hc1, SqT.of upd_same, by show 3 + 1 ≤ sizeLine; decide, fun c2 H10 m10 hc2 => ?_⟩
        have m610 := m6.trans (m7.trans (m8.trans (m9.trans m10)))
        refine ⟨_, rfl, _, rfl, ra, _, rfl, sqT_mono m610 hra, fun c3 H11 m11 hc3 => ?_⟩
        refine ⟨c2, c3, _, _, rfl, rfl, sqT_mono m11 hc2, hc3, by show 4 + 2 ≤ sizeLine; decide, fun c4 H12 m12 hc4 => ?_⟩
        have mm := m610.trans (m11.trans m12)
        have a12 := a2.grow mm
        refine ⟨ws, a12.l, big' _ (by omega), ws ++ [.ref c4], ?_⟩
        rw [take_more ep, List.map_append, List.map_append]
        exact a12.add (d := (p.nmL r).d) (pr6_mk (p := p.nmL r) hc4 (dp_mono (m9.trans (m10.trans (m11.trans m12))) _ _ dl8) (dp_mono mm _ _ db) (dp_mono mm _ _ dr)) (Pr.nol _)
      rintro H5 ⟨ws, a2⟩
      have lus := DpAll.len ac.d
      rw [List.length_map, List.length_map] at lus
      rw [lus, List.take_length] at a2
      refine k1 _ _ ⟨D2, ws, vs, _, _, _, _, rfl, rs.trans a2.s, a2.l, by rw [n2]; exact a2.d, by rw [n1]; exact rw4.same a2.s⟩
    · refine iteT2 (by simp [hloc]) ?_
      obtain ⟨rows, er, n1, n2, ix⟩ := nm_rows hk hloc
      obtain ⟨l, xs, el, hl', dxs, nl⟩ := rw4.r _ _ er
      have lxs : xs.length = rows.length := (DpAll.len dxs).trans (List.length_map _)
      have lr := lens rows (List.mem_of_getElem? er)
      refine ⟨_, rfl, _, rfl, R, vs, _, _, rfl, rfl, SqL.of rw4.d, at_of (j := idxK r.k) rfl el, l, rfl, ⟨_, SqL.of hl'⟩, fun D2 hD2 => ?_⟩
      refine lc_list (K := K) (a := l) (xs := xs) (fun i H' => ∃ ws, Acc K H4 H' D2 ws (((rows.take i).map (rowNm r)).map trip)) ⟨[], Acc.start hD2⟩ (fun i H' _ ⟨_, a2⟩ => SqL.of (a2.s _ _ hl')) ?_ ?_
      · rintro i x H5 hx ⟨ws, a2⟩
        obtain ⟨t, b, et, rfl, hb⟩ := trip_at dxs hx
        have hb := sqT_mono a2.s hb
        have lws : ws.length ≤ 100 := by
          have := a2.len
          rw [List.length_map, List.length_map, List.length_take] at this
          omega
        refine ⟨rfl, _, rfl, b, _, 0, _, rfl, rfl, hb, atI_nat (j := 0) rfl, _, rfl, big 2 (by decide), fun t1 h1 => ?_⟩
        have m1 := Gm.same_new h1 (.tup [V.str t.1, V.str r.n])
        refine ⟨_, rfl, b, _, 0, _, rfl, rfl, sqT_mono m1 hb, atI_nat (j := 0) rfl, _, rfl, rfl, .inr ⟨_, rfl, t1, _, _, _, rfl, rfl, SqT.of upd_same, pick_c, big 1 (by decide), fun t2 h2 => ?_⟩⟩
        have m2 := Gm.same_new h2 (.tup [V.str (if t.1 = r.o then r.n else t.1)])
        refine ⟨_, rfl, _, rfl, b, _, rfl, sqT_mono (m1.trans m2) hb, fun c1 H6 m6 hc1 => ?_⟩
        refine ⟨t2, c1, _, _, rfl, rfl, sqT_mono m6 (SqT.of upd_same), hc1, by show 1 + 2 ≤ sizeLine; decide, fun c2 H7 m7 hc2 => ?_⟩
        have a7 := a2.grow (m1.trans (m2.trans (m6.trans m7)))
        refine ⟨ws, a7.l, big' _ (by omega), ws ++ [.ref c2], ?_⟩
        rw [take_more et, List.map_append, List.map_append]
        exact a7.add (d := trip (rowNm r t)) (.tup hc2 (.cons (.str _) (.cons (.int _) (.cons (.int _) .nil)))) (nol_trip _)
      rintro H5 ⟨ws, a2⟩
      rw [lxs, List.take_length] at a2
      have rw5 := rw4.same a2.s
      have ac5 := ac.grow a2.s
      have nD : D ≠ R := nDR
      refine ⟨_, rfl, _, rfl, R, vs, _, _, rfl, rfl, rw5.d, ix_in (by rw [rw5.l]; exact ix), k1 _ _ ⟨D, us, vs.set (idxK r.k) (.ref D2), _, _, _, _, rfl, fun b o e => ?_, by rw [upd_ne nD]; exact ac5.l, by rw [n2]; exact dp_tupsAll (Tups.lst rw5.d) _ _ (nolAll_procs _) ac5.d, by rw [n1]; exact rw5.set _ a2.l a2.d (ne_of_none rw4.d hD2).symm⟩⟩
      rw [upd_ne (ne_of_none e hR0)]
      exact a2.s _ _ (rs _ _ e)
  rintro σ H5 ⟨D', us5, vs5, y5, y7, y9, y10, rfl, rs5, e5, d5, rw5⟩
  have l5 := rw5.l
  have l3 : (rs3 (G.nm r)).length = 3 := rfl
  have lus5 : us5.length ≤ 100 := by
    have := DpAll.len d5
    rw [List.length_map] at this
    have h2 : (G.nm r).procs.length = G.procs.length := by
      unfold Ga.nm
      split
      · exact List.length_map _
      split
      · exact List.length_map _
      split <;> exact List.length_map _
    omega
  refine ⟨_, rfl, R, rfl, ⟨_, SqL.of rw5.d⟩, fun D3 hD3 => ?_⟩
  refine lc_list (K := K) (a := R) (xs := vs5) (fun i H' => ∃ ws, Acc K H5 H' D3 ws (((rs3 (G.nm r)).take i).map trips)) ⟨[], Acc.start hD3⟩ (fun i H' _ ⟨_, a2⟩ => SqL.of (a2.s _ _ rw5.d)) ?_ ?_
  · rintro i x H6 hx ⟨ws, a2⟩
    have hi := (List.getElem?_eq_some_iff.mp hx).1
    obtain ⟨rows, er⟩ : ∃ rows, (rs3 (G.nm r))[i]? = some rows := ⟨(rs3 (G.nm r))[i]'(by omega), List.getElem?_eq_getElem _⟩
    obtain ⟨l, xs, el, hl6, dxs, nl⟩ := rw5.r _ _ er
    rw [hx] at el
    cases el
    have lws : ws.length ≤ 3 := by
      have := a2.len
      rw [List.length_map, List.length_take] at this
      omega
    refine ⟨rfl, _, rfl, l, xs, rfl, .inl ⟨SqL.of (a2.s _ _ hl6), fun tp htp => ?_⟩⟩
    have m := Gm.same_new htp (.tup xs)
    have a3 := a2.grow m
    refine ⟨ws, a3.l, big' _ (by omega), ws ++ [.ref tp], ?_⟩
    rw [take_more er, List.map_append]
    exact a3.add (d := trips rows) (dp_tup htp (dp_monoAll a2.s _ _ dxs)) (nolAll_trips rows)
  rintro H6 ⟨ws, a2⟩
  rw [l5, List.take_length] at a2
  have lws : ws.length ≤ 3 := by
    have := a2.len
    rw [List.length_map] at this
    omega
  refine ⟨D3, ws, rfl, .inl ⟨SqL.of a2.l, fun tp htp => ?_⟩⟩
  have m7 := Gm.same_new htp (.tup ws)
  refine ⟨_, rfl, D', us5, rfl, .inl ⟨SqL.of (m7 _ _ (a2.s _ _ e5)), fun tq htq => ⟨big 1 (by decide), fun t1 h1 => ?_⟩⟩⟩
  have m8 := Gm.same_new htq (.tup us5)
  have m9 := Gm.same_new h1 (.tup [V.ref tq])
  have dtq : Dp K _ (.ref tq) (.tuple ((G.nm r).procs.map Pr.d)) := dp_tup htq (dp_monoAll (a2.s.trans m7) _ _ d5)
  refine ⟨tp, t1, _, _, rfl, rfl, sqT_mono (m8.trans m9) (SqT.of upd_same), SqT.of upd_same, by show ws.length + 1 ≤ sizeLine; exact big _ (by omega), fun c H10 m10 hc => ?_⟩
  refine q _ _ (rs5.trans (a2.s.trans (m7.trans (m8.trans (m9.trans m10))))) ?_
  show Dp K H10 (.ref c) (.tuple ((rs3 (G.nm r)).map trips ++ [.tuple ((G.nm r).procs.map Pr.d)]))
  exact .tup hc (DpAll.app (dp_monoAll (m7.trans (m8.trans (m9.trans m10))) _ _ a2.d) (.cons (dp_mono (m9.trans m10) _ _ dtq) .nil))
end
end Toy
set_option Elab.async false
set_option linter.all false
set_option maxRecDepth 100000
set_option maxHeartbeats 2000000
/-! t[::-1] of a tuple. -/
namespace HT
open PySem PyProof.Rows
section
variable {prog : Program} {w : World} {A : Around} {E : Value → Shared → Prop} {s : Shared}
theorem slt_adjust (n : Nat) : Builtin.Slice.sliceAdjust none none (-1) (n : Int) = ((n : Int) - 1, -1) := by
  unfold Builtin.Slice.sliceAdjust
  simp
theorem slt_places (n : Nat) : Builtin.Slice.slicePlaces ((n : Int) - 1) (-1) (-1) = n := by
  unfold Builtin.Slice.slicePlaces
  have h1 : ¬ ((-1 : Int) > 0) := by decide
  simp only [h1, if_false]
  by_cases h : (n : Int) - 1 > -1
  · simp only [h, if_true]
    rw [show (-(-1) : Int) = 1 by decide, Int.ediv_one]
    omega
  · simp only [h, if_false]
    show (0 : Int).toNat = n
    have : n = 0 := by omega
    rw [this]
    rfl
theorem fm_congr {α β : Type} {f g : α → Option β} : ∀ {l : List α}, (∀ x ∈ l, f x = g x) → l.filterMap f = l.filterMap g
  | [], _ => rfl
  | x :: l, h => by
    have h1 := h x (List.mem_cons_self ..)
    have h2 := fm_congr (l := l) fun y hy => h y (List.mem_cons_of_mem _ hy)
    rw [List.filterMap_cons, List.filterMap_cons, h1, h2]
theorem slt_pick (xs : Array Value) : ((List.range xs.size).filterMap fun (m : Nat) => xs[(((xs.size : Nat) : Int) - 1 + (m : Int) * -1).toNat]?).toArray = xs.toList.reverse.toArray := by
  have h := PySem.W.krv_all xs
  have e : (List.range xs.size).filterMap (fun (m : Nat) => xs[(((xs.size : Nat) : Int) - 1 + (m : Int) * -1).toNat]?) = ((List.range xs.size).map fun k => xs.size - 1 - k).filterMap (xs[·]?) := by
    rw [List.filterMap_map]
    refine fm_congr fun m hm => ?_
    have := List.mem_range.mp hm
    have e2 : (((xs.size : Nat) : Int) - 1 + (m : Int) * -1).toNat = xs.size - 1 - m := by omega
    rw [e2]
    rfl
  rw [e, PySem.W.krv_range, List.filterMap_reverse, h]
theorem slt_applied {sl : Addr} {u : Tok} {n : Nat} {Q : Int × Int × Nat → Shared → Prop} (hs : s.heap.IsSliceOf sl .none .none (.int (-1) u))
    (h : Q ((n : Int) - 1, -1, n) s) : wpAny (model prog w) A (Builtin.Slice.sliceApplied (.ref sl) (pure (n : Int))) Q E s := by
  obtain ⟨os, hos, hcs, hds⟩ := id hs
  unfold Builtin.Slice.sliceApplied Builtin.Slice.sliceFields
  refine wpAny_bind (wpAny_bind (wpAny_field hos hds (x := .none) rfl (wpAny_bind (wpAny_field hos hds (x := .none) rfl (wpAny_bind (wpAny_field hos hds (x := .int (-1) u) rfl (wpAny_pure ?_)))))))
  refine wpAny_bind (slicePart_int ?_)
  show wpAny _ _ (if ((-1 : Int) == 0) = true then _ else _) _ _ s
  rw [if_neg (by decide)]
  refine wpAny_bind (slicePart_none (wpAny_bind (slicePart_none (wpAny_bind (wpAny_pure ?_)))))
  show wpAny _ _ (match Builtin.Slice.sliceAdjust none none (-1) (n : Int) with | (lo, hi) => pure (lo, (-1 : Int), Builtin.Slice.slicePlaces lo hi (-1))) _ _ s
  rw [slt_adjust n]
  show wpAny _ _ (pure ((n : Int) - 1, (-1 : Int), Builtin.Slice.slicePlaces ((n : Int) - 1) (-1) (-1))) _ _ s
  rw [slt_places]
  exact wpAny_pure h
theorem getItem_tuple_rev {t sl : Addr} {items : Array Value} {u : Tok} {Q : Value → Shared → Prop} (ht : IsTup s.heap t items) (hs : s.heap.IsSliceOf sl .none .none (.int (-1) u))
    (h : Q (.ref s.heap.objs.size) { s with heap := s.heap.push { cls := .type "tuple", data := .seq items.toList.reverse.toArray } })
    (hsz : items.size ≤ sizeLine) : wpAny (model prog w) A (getItem (.ref t) (.ref sl)) Q E s := by
  have htake : sizeOk (.seq items.toList.reverse.toArray) := by
    show items.toList.reverse.toArray.size ≤ sizeLine
    rw [List.size_toArray, List.length_reverse, Array.length_toList]
    exact hsz
  obtain ⟨os, hos, hcs, hds⟩ := id hs
  have hTs : s.TypeIs (.ref sl) "slice" := ⟨os, hos, hcs⟩
  unfold getItem
  try with_reducible refine wpAny_holding ?_
  first | refine wpAny_bind (wpAny_pure ?_) | skip
  refine wpAny_bind (wpAny_sequenceKey ht.typeIs (by decide) ?_)
  refine wpAny_bind (wpAny_callSpecial?_slot (name := Str.ofString "__getitem__") ht.typeIs PyProof.Rows.slot_tuple_getitem
    (wpAny_call_entry PyProof.Rows.slot_tuple_getitem ht.typeIs entry_tuple_getitem ?_ (args_tuple_getitem _ _)))
  show wpAny _ _ (Builtin.Tuple.tupleItemsOf (.ref t) >>= _) _ _ s
  refine wpAny_bind (tupleItemsOf_ ht ?_)
  refine wpAny_bind (wpAny_typeOf hTs ?_)
  rw [if_pos (by decide)]
  refine wpAny_bind (slt_applied hs ?_)
  have hno : ¬ (((((items.size : Nat) : Int) - 1) == 0 && (-1 : Int) == 1 && items.size == items.size) = true) := by
    intro q
    rw [Bool.and_eq_true, Bool.and_eq_true] at q
    exact absurd q.1.2 (by decide)
  show wpAny _ _ (if ((((items.size : Nat) : Int) - 1) == 0 && (-1 : Int) == 1 && items.size == items.size) = true then _ else _) _ _ s
  rw [if_neg hno, slt_pick]
  first
    | exact wpAny_bind (m := Builtin.Tuple.tupleExact _) (wpAny_newObj_type (wpAny_pure ⟨_, rfl, wpAny_pure h⟩) htake)
    | exact wpAny_bind (m := Builtin.Tuple.tupleExact _) (wpAny_newObj_type (wpAny_bind (wpAny_pure (wpAny_pure ⟨_, rfl, wpAny_pure h⟩))) htake)
    | exact wpAny_bind (wpAny_bind (m := Builtin.Tuple.tupleExact _) (wpAny_newObj_type (wpAny_pure (wpAny_pure ⟨_, rfl, wpAny_pure h⟩)) htake))
    | exact wpAny_bind (wpAny_bind (m := Builtin.Tuple.tupleExact _) (wpAny_newObj_type (wpAny_pure ⟨_, rfl, wpAny_pure h⟩) htake))
end
end HT
namespace SlT
open PySem PySem.W PySem.Calls PyProof.Rows L2
def tSlT (K : PySem.W.Frag) (te ts : TE) : TE := fun σ H Q => te σ H fun x H1 => ts σ H1 fun y H2 => y = .int (-1) ∧ ∃ a xs, x = .ref a ∧ SqT K H2 a xs ∧ ∀ p, H2 p = none → Q (.ref p) (upd H2 p (.tup xs.reverse))
section
variable {X : Cx} {e st : Expr} {te ts : TE} {pos p2 : Pos}
theorem vals_rev {xs : List V} {us : List Value} (r : Vals xs us) : Vals xs.reverse us.reverse := by
  induction r with
  | nil => exact .nil
  | cons h t ih =>
    rw [List.reverse_cons, List.reverse_cons]
    exact ih.append (.cons h .nil)
theorem pe_sliceT (K : PySem.W.Frag) (hK : X.K = K) (he : PE X e te) (hs : PE X st ts) : PE X (.Subscript e (.Slice none none (some st) p2) pos) (tSlT K te ts) := by
  subst hK
  refine ⟨fun pins s σ H Q I h => ?_⟩
  refine Subscript_ (thn (he.run pins s σ H _ I h) fun v s1 ⟨x, H1, I1, r1, q1⟩ => ?_)
  refine wpAny_Slice ?_
  rw [evalPart_none]
  refine wpAny_pure (wpAny_pure ?_)
  rw [evalPart_some]
  refine thn (hs.run pins s1 σ H1 _ I1 q1) fun vk s3 ⟨y, H3, I3, ry, q3⟩ => ?_
  obtain ⟨rfl, a, xs, rfl, hx, q⟩ := q3
  obtain ⟨t, rfl⟩ := ry
  have I4 : Inv X pins σ H3 { s3 with heap := s3.heap.push { cls := .type "slice", data := .fields #[.none, .none, .int (-1) t] } } := I3.kept (t' := s3.toks) fun b ob q => Heap.get?_push_of_some _ q
  show wpAny (model X.prog X.w) X.A (subscriptTail e (.Slice none none (some st) p2) v (.ref s3.heap.objs.size)) (EP X pins σ Q) X.xe { s3 with heap := s3.heap.push { cls := .type "slice", data := .fields #[.none, .none, .int (-1) t] } }
  cases r1
  obtain ⟨its, r, ht, hz⟩ := I4.tuple hx
  have hlen := r.length
  refine tail_any (ops := [.ref a, .ref s3.heap.objs.size]) ht.typeIs PyProof.Rows.slot_tuple_getitem.lookup ?_ (by with_unfolding_all rfl)
  refine HT.getItem_tuple_rev ht (Heap.IsSliceOf.new ..) ?_ (by rw [List.size_toArray] <;> omega)
  refine ⟨.ref _, _, I4.laid (t' := s3.toks) (o := .tup xs.reverse) (fun b ob q => Heap.get?_push_of_some _ q) (Nat.le_refl _) ?_, rfl, q _ (I4.hok.fresh (Nat.le_refl _))⟩
  refine ⟨?_, its.reverse, vals_rev r, ?_⟩
  · rw [List.length_reverse]; omega
  · exact ⟨_, Heap.get?_push_size _ rfl, rfl, _, rfl⟩
end
end SlT
set_option Elab.async false
set_option linter.all false
set_option maxRecDepth 100000
set_option maxHeartbeats 8000000
namespace Toy
open PySem L2 NdefX Gm
open Mine hiding same_new
open Pz (But)
/-- games that are drawn from a game -/
def Gos (G : Ga) (Fs : List Ga) : Prop := ∀ F ∈ Fs, Go G F
def spRows (K : PySem.W.Frag) : Sp := fun vs H Q _ => ∃ (v : V) (G : Ga), vs = [v] ∧ Dp K H v G.d ∧ GdU G ∧ ∀ (l : Addr) (xs : List V) (Fs : List Ga) (H' : Hp), Same H H' → H l = none → H' l = some (.lst xs) → DpAll K H' xs (Fs.map Ga.d) → Gos G Fs → xs.length ≤ 1000 → Q (.ref l) H'
/-- xs[:k] + (u,) + xs[k + 1:] -/
theorem put_rd {K : PySem.W.Frag} {te : TE} {i j : Nat} {σ : L2.St} {H : Hp} {Q : VK} {a : Addr} {xs : List V} {k : Nat} (e1 : σ[i]? = some (some (.ref a))) (e2 : σ[j]? = some (some (.int (k : Int)))) (hs : SqT K H a xs) (hl : xs.length ≤ 100)
    (h : ∀ H1, Same H H1 → ∀ C : VK, (∀ u H2, Same H1 H2 → (∀ p H3, Same H2 H3 → SqT K H3 p (xs.take k ++ [u] ++ xs.drop (k + 1)) → Q (.ref p) H3) → C u H2) → te σ H1 C) :
    tOp (CatB.rCatB K) (tOp (CatB.rCatB K) (tSl (rSlB K) (tVar i) tNoPart (tPart (tVar j))) (tTup (tCons te tNil))) (tSl (rSlB K) (tVar i) (tPart (tOp (rI0 fun i j => V.int (i + j)) (tVar j) (tC (V.int 1)))) tNoPart) σ H Q := by
  refine ⟨_, e1, _, e2, _, rfl, a, xs, rfl, hs, fun c1 H1 m1 hc1 => ?_⟩
  rw [Gm.cut_take] at hc1
  refine h H1 m1 _ fun u H2 m2 q => ?_
  have hl1 : (xs.take k).length ≤ 100 := by rw [List.length_take]; omega
  have hl2 : (xs.drop (k + 1)).length ≤ 100 := by rw [List.length_drop]; omega
  refine ⟨big 1 (by decide), fun t ht => ?_⟩
  have m3 := Gm.same_new ht (.tup [u])
  refine ⟨c1, t, _, _, rfl, rfl, sqT_mono (m2.trans m3) hc1, SqT.of upd_same, by show (xs.take k).length + 1 ≤ sizeLine; exact big _ (by omega), fun c2 H4 m4 hc2 => ?_⟩
  have ek : V.int ((k : Int) + 1) = .int ((k + 1 : Nat) : Int) := by congr 1
  refine ⟨_, e1, _, e2, (k : Int), 1, rfl, rfl, ((k + 1 : Nat) : Int), ek, a, xs, rfl, sqT_mono (m1.trans (m2.trans (m3.trans m4))) hs, fun c3 H5 m5 hc3 => ?_⟩
  rw [Gm.cut_drop] at hc3
  refine ⟨c2, c3, _, _, rfl, rfl, sqT_mono m5 hc2, hc3, big _ (by rw [List.length_append]; show (xs.take k).length + 1 + _ ≤ _; omega), fun c4 H6 m6 hc4 => ?_⟩
  exact q c4 H6 (m3.trans (m4.trans (m5.trans m6))) hc4
theorem setR_dp {K : PySem.W.Frag} {H : Hp} {v0 v1 v2 v3 u : V} {G : Ga} {k : Nat} {p : Addr} {rows : List (Str × Int × Int)} (hk : k < 3) (hs : SqT K H p ([v0, v1, v2, v3].take k ++ [u] ++ [v0, v1, v2, v3].drop (k + 1)))
    (d0 : Dp K H v0 (trips G.vars)) (d1 : Dp K H v1 (trips G.tabs)) (d2 : Dp K H v2 (trips G.lots)) (d3 : Dp K H v3 (.tuple (G.procs.map Pr.d))) (du : Dp K H u (trips rows)) : Dp K H (.ref p) (G.setR k rows).d := by
  have hk : k = 0 ∨ k = 1 ∨ k = 2 := by omega
  rcases hk with rfl | rfl | rfl
  · have hs : SqT K H p [u, v1, v2, v3] := hs
    show Dp K H (.ref p) (.tuple [trips rows, trips G.tabs, trips G.lots, .tuple (G.procs.map Pr.d)])
    exact .tup hs (.cons du (.cons d1 (.cons d2 (.cons d3 .nil))))
  · have hs : SqT K H p [v0, u, v2, v3] := hs
    show Dp K H (.ref p) (.tuple [trips G.vars, trips rows, trips G.lots, .tuple (G.procs.map Pr.d)])
    exact .tup hs (.cons d0 (.cons du (.cons d2 (.cons d3 .nil))))
  · have hs : SqT K H p [v0, v1, u, v3] := hs
    show Dp K H (.ref p) (.tuple [trips G.vars, trips G.tabs, trips rows, .tuple (G.procs.map Pr.d)])
    exact .tup hs (.cons d0 (.cons d1 (.cons du (.cons d3 .nil))))
theorem dps_rev {K : PySem.W.Frag} {H : Hp} : ∀ {vs : List V} {ds : List PyData}, DpAll K H vs ds → DpAll K H vs.reverse ds.reverse
  | _, _, .nil => .nil
  | _, _, .cons h t => by rw [List.reverse_cons, List.reverse_cons]; exact DpAll.app (dps_rev t) (.cons h .nil)
/-- the games that are found so far -/
structure Fnd (K : PySem.W.Frag) (H0 H : Hp) (F : Addr) (G : Ga) (n : Nat) : Prop where
  ex : ∃ xs Fs, Acc K H0 H F xs (Fs.map Ga.d) ∧ Gos G Fs ∧ xs.length ≤ n
theorem nolAll_gas : ∀ Fs : List Ga, nolAll (Fs.map Ga.d) = true
  | [] => rfl
  | F :: Fs => by show (nol F.d && nolAll (Fs.map Ga.d)) = true; rw [nolAll_gas Fs, Ga.nol]; rfl
theorem Fnd.same {K : PySem.W.Frag} {H0 H H' : Hp} {F : Addr} {G : Ga} {n : Nat} (h : Fnd K H0 H F G n) (m : Same H H') : Fnd K H0 H' F G n := by
  obtain ⟨xs, Fs, a, g, l⟩ := h.ex
  exact ⟨xs, Fs, a.grow m, g, l⟩
theorem Fnd.mono {K : PySem.W.Frag} {H0 H : Hp} {F : Addr} {G : Ga} {n k : Nat} (h : Fnd K H0 H F G n) (l : n ≤ k) : Fnd K H0 H F G k := by
  obtain ⟨xs, Fs, a, g, l'⟩ := h.ex
  exact ⟨xs, Fs, a, g, by omega⟩
theorem Fnd.s {K : PySem.W.Frag} {H0 H : Hp} {F : Addr} {G : Ga} {n : Nat} (h : Fnd K H0 H F G n) : Same H0 H := by
  obtain ⟨xs, Fs, a, g, l⟩ := h.ex
  exact a.s
/-- found.append(u) -/
theorem Fnd.put {K : PySem.W.Frag} {H0 H : Hp} {F : Addr} {G F1 : Ga} {n : Nat} {u : V} (h : Fnd K H0 H F G n) (hn : n ≤ 1000) (d : Dp K H u F1.d) (g : Go G F1) : ∃ xs, H F = some (.lst xs) ∧ xs.length < sizeLine ∧ Fnd K H0 (upd H F (.lst (xs ++ [u]))) F G (n + 1) := by
  obtain ⟨xs, Fs, a, gs, l⟩ := h.ex
  refine ⟨xs, a.l, big' _ (by omega), ⟨xs ++ [u], Fs ++ [F1], ?_, fun f hf => ?_, by rw [List.length_append]; show xs.length + 1 ≤ _; omega⟩⟩
  · rw [List.map_append]
    exact a.add d (Ga.nol _)
  · rcases List.mem_append.mp hf with hf | hf
    · exact gs f hf
    · rw [List.mem_singleton.mp hf]
      exact g
section
variable {P : Program} {w : World} {K : PySem.W.Frag} {mg : Str → Option Value} {base : Heap} {file : Str}
theorem ok_rows (T : Txt K mg file) : FnOk P w K mg base CX0 22 T.a_law_rows T.fd_law_rows ["game"] (spRows K) := by
  have G_law_named : FnOk P w K mg base CX0 20 T.a_law_named T.fd_law_named ["game", "kind", "old", "new"] (spLN K) := ok_ln T
  refine T.F_law_rows.ok sc_law_rows (fun vs H Q E h => ?_) (fun cdv A outer s H vs Q E hr h => ?_)
  · obtain ⟨v, G, rfl, _⟩ := h
    rfl
  obtain ⟨v, G, rfl, dv, gd, q⟩ := h
  refine ⟨_, (pss_cons (ps_set (i := 1) sc_law_rows.nd rfl (Or.inl rfl) (pe_lst pa_nil))
    (pss_cons (ps_for PassesOwn.never rfl (pi_range1 (by rfl) T.z_range (pa_cons pe_int pa_nil)) (pg_name (i := 2) sc_law_rows.nd rfl (Or.inl rfl))
      (pss_cons (ps_set (i := 3) sc_law_rows.nd rfl (Or.inl rfl) (pe_ix ix_tup (pv 0) (pv 2) (fun _ _ => rfl)))
    (pss_cons (ps_for PassesOwn.never rfl (pi_range1 (by rfl) T.z_range (pa_cons (pe_callB call_len_seq (by rfl) T.z_len (by decide +kernel) (pa_cons (pv 3) pa_nil)) pa_nil)) (pg_name (i := 4) sc_law_rows.nd rfl (Or.inl rfl))
      (pss_cons (ps_asg (pe_ix ix_tup (pv 3) (pv 4) (fun _ _ => rfl)) (pg_tup rfl (pgs_cons (pg_name (i := 5) sc_law_rows.nd rfl (Or.inl rfl)) (pgs_cons (pg_name (i := 6) sc_law_rows.nd rfl (Or.inl rfl)) (pgs_cons (pg_name (i := 7) sc_law_rows.nd rfl (Or.inl rfl)) pgs_nil)))))
    (pss_cons (ps_set (i := 8) sc_law_rows.nd rfl (Or.inl rfl) (pe_ix ix_tup (pe_tup (pa_cons pe_int (pa_cons pe_int (pa_cons pe_int pa_nil)))) (pv 2) (fun _ _ => rfl)))
    (pss_cons (ps_set (i := 9) sc_law_rows.nd rfl (Or.inl rfl) (pe_lst (pa_cons (pe_tup (pa_cons (pv 5) (pa_cons (pe_op op_add (pe_op op_mod (pv 6) (pv 8)) pe_int) (pa_cons (pe_callB (call_min2 rfl) (by rfl) T.z_min (by decide +kernel) (pa_cons (pv 7) (pa_cons (pe_op op_mod (pv 6) (pv 8)) pa_nil))) pa_nil)))) pa_nil)))
    (pss_cons (ps_if (pt_cmpR op_gt (pv 2) pe_int (nomark _))
      (pss_one (ps_set (i := 9) sc_law_rows.nd rfl (Or.inl rfl) (pe_lst (pa_cons (pe_tup (pa_cons (pv 5) (pa_cons (pe_op op_add (pe_op op_mod (pv 6) (pv 8)) pe_int) (pa_cons (pv 7) pa_nil)))) (pa_cons (pe_tup (pa_cons (pv 5) (pa_cons (pv 6) (pa_cons (pe_op op_add (pe_op op_mod (pv 7) (pv 8)) pe_int) pa_nil)))) pa_nil)))))
      (pss_one (ps_if (pt_cmpR op_gt (pv 6) pe_int (nomark _))
      (pss_one (ps_expr (pe_bm PySem.F.plainAttrs_list PySem.F.slot_list_append PySem.F.type_list_append mt_append (pv 9) (pa_cons (pe_tup (pa_cons (pv 5) (pa_cons (pv 6) (pa_cons (pe_op op_mod (pe_callTy call_int1 (by rfl) T.z_int (by decide +kernel) (pa_cons (pe_op op_add (pv 7) pe_int) pa_nil)) (pv 6)) pa_nil)))) pa_nil))))
      pss_nil)))
    (pss_cons (ps_for PassesOwn.never rfl (pi_list (pv 9)) (pg_name (i := 10) sc_law_rows.nd rfl (Or.inl rfl))
      (pss_one (ps_expr (pe_bm PySem.F.plainAttrs_list PySem.F.slot_list_append PySem.F.type_list_append mt_append (pv 1) (pa_cons (pe_op (CatB.op_catB K rfl) (pe_op (CatB.op_catB K rfl) (pe_slice (slTB K rfl) (pv 0) po_none (po_some (pv 2))) (pe_tup (pa_cons (pe_op (CatB.op_catB K rfl) (pe_op (CatB.op_catB K rfl) (pe_slice (slTB K rfl) (pv 3) po_none (po_some (pv 4))) (pe_tup (pa_cons (pv 10) pa_nil))) (pe_slice (slTB K rfl) (pv 3) (po_some (pe_op op_add (pv 4) pe_int)) po_none)) pa_nil))) (pe_slice (slTB K rfl) (pv 0) (po_some (pe_op op_add (pv 2) pe_int)) po_none)) pa_nil)))))
    (pss_one (ps_expr (pe_bm PySem.F.plainAttrs_list PySem.F.slot_list_append PySem.F.type_list_append mt_append (pv 1) (pa_cons (pe_call G_law_named (hr.mono (by omega)) rfl T.g_law_named T.k_law_named T.b_law_named .nil pass0 (pa_cons (pv 0) (pa_cons (pe_ix ix_tup (pe_tup (pa_cons pe_str (pa_cons pe_str (pa_cons pe_str pa_nil)))) (pv 2) (fun _ _ => rfl)) (pa_cons (pv 5) (pa_cons pe_str pa_nil))))) pa_nil))))))))))
    (pss_cons (ps_expr (pe_bm PySem.F.plainAttrs_list PySem.F.slot_list_append PySem.F.type_list_append mt_append (pv 1) (pa_cons (pe_op (CatB.op_catB K rfl) (pe_op (CatB.op_catB K rfl) (pe_slice (slTB K rfl) (pv 0) po_none (po_some (pv 2))) (pe_tup (pa_cons (SlT.pe_sliceT K rfl (pv 3) (pe_un un_neg pe_int)) pa_nil))) (pe_slice (slTB K rfl) (pv 0) (po_some (pe_op op_add (pv 2) pe_int)) po_none)) pa_nil)))
    (pss_one (ps_expr (pe_bm PySem.F.plainAttrs_list PySem.F.slot_list_append PySem.F.type_list_append mt_append (pv 1) (pa_cons (pe_op (CatB.op_catB K rfl) (pe_op (CatB.op_catB K rfl) (pe_slice (slTB K rfl) (pv 0) po_none (po_some (pv 2))) (pe_tup (pa_cons (pe_op (CatB.op_catB K rfl) (pv 3) (pe_tup (pa_cons (pe_tup (pa_cons pe_str (pa_cons pe_int (pa_cons pe_int pa_nil)))) pa_nil))) pa_nil))) (pe_slice (slTB K rfl) (pv 0) (po_some (pe_op op_add (pv 2) pe_int)) po_none)) pa_nil))))))))
    (pss_one (ps_ret (pv 1))))), ?_⟩
  obtain ⟨ga, v0, v1, v2, v3, rfl, hg, d0, d1, d2, d3⟩ := four_inv dv
  have dv3 : DpAll K H [v0, v1, v2] [trips (G.rw 0), trips (G.rw 1), trips (G.rw 2)] := .cons d0 (.cons d1 (.cons d2 .nil))
  refine ⟨big 0 (by decide), fun F hF => ?_⟩
  have hl := gd.len
  refine gn ?_
  refine ⟨_, rfl, by decide, by decide, ?_⟩
  refine for_range (lo := 0) (n := 3) (fun kd σ H' => ∃ (y2 y3 y4 y5 y6 y7 y8 y9 y10 : Option V), σ = [some (.ref ga), some (.ref F), y2, y3, y4, y5, y6, y7, y8, y9, y10] ∧ Fnd K H H' F G (11 * kd)) ⟨_, _, _, _, _, _, _, _, _, rfl, ⟨⟨[], [], Acc.start hF, (fun f hf => absurd hf (List.not_mem_nil)), Nat.le_refl _⟩⟩⟩ ?_ ?_
  · rintro kd σ H1 hkd ⟨y2, y3, y4, y5, y6, y7, y8, y9, y10, rfl, fn⟩
    obtain ⟨vk, evk, dk⟩ := DpAll.get (i := kd) dv3 (show [trips (G.rw 0), trips (G.rw 1), trips (G.rw 2)][kd]? = some (trips (G.rw kd)) by
      match kd, hkd with
      | 0, _ => rfl
      | 1, _ => rfl
      | 2, _ => rfl)
    obtain ⟨ra, rs, rfl, hra, drs⟩ := trips_inv dk
    have lrs : rs.length = (G.rw kd).length := (DpAll.len drs).trans (List.length_map _)
    have lr3 := gd.rl (k := kd)
    have evk4 : atI [v0, v1, v2, v3] (0 + (kd : Int)) = some (.ref ra) := at_of (j := kd) (by omega) (by
      match kd, hkd, evk with
      | 0, _, evk => exact evk
      | 1, _, evk => exact evk
      | 2, _, evk => exact evk)
    have ekd : V.int (0 + (kd : Int)) = .int ((kd : Nat) : Int) := by rw [Int.zero_add]
    refine gn ?_
    have gm : ∀ {rows : List (Str × Int × Int)} {H2 H3 : Hp} {u : V} {p : Addr}, Same H H3 → Dp K H3 u (trips rows) → SqT K H3 p ([v0, v1, v2, v3].take kd ++ [u] ++ [v0, v1, v2, v3].drop (kd + 1)) → Dp K H3 (.ref p) (G.setR kd rows).d := fun m du hs => setR_dp hkd hs (dp_mono m _ _ d0) (dp_mono m _ _ d1) (dp_mono m _ _ d2) (dp_mono m _ _ d3) du
    refine ⟨_, rfl, _, rfl, ga, _, _, _, rfl, rfl, sqT_mono fn.s hg, evk4, ?_⟩
    refine gn ?_
    refine ⟨_, rfl, ra, rs, rfl, .inr (sqT_mono fn.s hra), _, rfl, by omega, by omega, ?_⟩
    rw [show ((rs.length : Nat) : Int).toNat = rs.length by omega]
    rw [ekd]
    refine for_range (lo := 0) (n := rs.length) (fun j σ H' => ∃ (y4 y5 y6 y7 y8 y9 y10 : Option V), σ = [some (.ref ga), some (.ref F), some (.int (kd : Int)), some (.ref ra), y4, y5, y6, y7, y8, y9, y10] ∧ Fnd K H H' F G (11 * kd + 3 * j)) ⟨_, _, _, _, _, _, _, rfl, fn⟩ ?_ ?_
    · rintro j σ H2 hj ⟨y4, y5, y6, y7, y8, y9, y10, rfl, fn⟩
      refine gn ?_
      obtain ⟨x, ex⟩ : ∃ x, rs[j]? = some x := ⟨_, List.getElem?_eq_getElem hj⟩
      obtain ⟨t, tb, et, rfl, htb⟩ := trip_at drs ex
      have hm := List.mem_of_getElem? et
      have tn := (gd.rn (k := kd) t hm).1
      have ej : V.int (0 + (j : Int)) = .int ((j : Nat) : Int) := by rw [Int.zero_add]
      refine ⟨_, rfl, _, rfl, ra, rs, _, _, rfl, rfl, sqT_mono fn.s hra, at_of (j := j) (by omega) ex, tb, _, rfl, sqT_mono fn.s htb, rfl, _, _, rfl, ?_⟩
      refine gn ?_
      refine ⟨_, _, rfl, ?_⟩
      refine gn ?_
      refine ⟨_, _, rfl, ?_⟩
      refine gn ?_
      refine ⟨rfl, ?_⟩
      refine ⟨big 3 (by decide), fun tm htm => ?_⟩
      have mm := Gm.same_new htm (.tup [V.int 65535, V.int 64, V.int 64])
      obtain ⟨mo, emo, mo0, mo1⟩ : ∃ mo : Int, atI [V.int 65535, V.int 64, V.int 64] (kd : Int) = some (.int mo) ∧ 0 < mo ∧ mo ≤ 65535 := by
        have hk3 : kd = 0 ∨ kd = 1 ∨ kd = 2 := by omega
        rcases hk3 with rfl | rfl | rfl
        · exact ⟨65535, rfl, by decide, by decide⟩
        · exact ⟨64, rfl, by decide, by decide⟩
        · exact ⟨64, rfl, by decide, by decide⟩
      refine ⟨_, rfl, tm, _, _, _, rfl, rfl, SqT.of upd_same, emo, ?_⟩
      refine gn ?_
      have fn := fn.same mm
      revert fn
      generalize upd H2 tm (.tup [V.int 65535, V.int 64, V.int 64]) = H3
      intro fn
      rw [ej]
      refine ⟨_, rfl, _, rfl, _, rfl, _, _, rfl, rfl, mo0, _, _, rfl, rfl, _, rfl, _, rfl, _, rfl, _, _, rfl, rfl, mo0, _, _, rfl, big 3 (by decide), fun t1 h1 => ⟨big 1 (by decide), fun O hO => ?_⟩⟩
      refine gn ?_
      have m1 := Gm.same_new h1 (.tup [V.str t.1, V.int (t.2.1 % mo + 1), V.int (if t.2.1 % mo < t.2.2 then t.2.1 % mo else t.2.2)])
      have m2 := Gm.same_new hO (.lst [V.ref t1])
      have fnO := fn.same (m1.trans m2)
      have dO : DpAll K (upd (upd H3 t1 (.tup [V.str t.1, V.int (t.2.1 % mo + 1), V.int (if t.2.1 % mo < t.2.2 then t.2.1 % mo else t.2.2)])) O (.lst [V.ref t1])) [V.ref t1] ([(t.1, (t.2.1 % mo + 1), (if t.2.1 % mo < t.2.2 then t.2.1 % mo else t.2.2))].map trip) := .cons (dp_mono m2 _ _ (.tup (SqT.of upd_same) (.cons (.str _) (.cons (.int _) (.cons (.int _) .nil))))) .nil
      have eO : (upd (upd H3 t1 (.tup [V.str t.1, V.int (t.2.1 % mo + 1), V.int (if t.2.1 % mo < t.2.2 then t.2.1 % mo else t.2.2)])) O (.lst [V.ref t1])) O = some (.lst [V.ref t1]) := upd_same
      have hO0 : H O = none := none_of_same (fn.same m1).s hO
      have hOF : O ≠ F := by
        obtain ⟨xs0, Fs0, a0, g0, l0⟩ := (fn.same m1).ex
        exact (ne_of_none a0.l hO).symm
      revert fnO dO eO
      generalize upd (upd H3 t1 (.tup [V.str t.1, V.int (t.2.1 % mo + 1), V.int (if t.2.1 % mo < t.2.2 then t.2.1 % mo else t.2.2)])) O (.lst [V.ref t1]) = H4
      intro fnO dO eO
      try dsimp only
      refine seq_k (fun σ H' => ∃ (O' : Addr) (os : List V) (qs : List (Str × Int × Int)), σ = [some (.ref ga), some (.ref F), some (.int (kd : Int)), some (.ref ra), some (.int (j : Int)), some (.str t.1), some (.int t.2.1), some (.int t.2.2), some (.int mo), some (.ref O'), y10] ∧ Fnd K H H' F G (11 * kd + 3 * j) ∧ H' O' = some (.lst os) ∧ DpAll K H' os (qs.map trip) ∧ (∀ q ∈ qs, q.1 = t.1) ∧ os.length ≤ 2 ∧ O' ≠ F ∧ H O' = none) ?_ (fun k1 => ?_)
      rotate_left
      · refine ⟨_, rfl, _, _, rfl, rfl, _, rfl, ite2 (fun z1 => ?_) (fun z1 => ⟨_, rfl, _, _, rfl, rfl, _, rfl, ite2 (fun z2 => ?_) (fun _ => k1 _ _ ⟨O, [V.ref t1], _, rfl, fnO, eO, dO, fun q hq => by rw [List.mem_singleton.mp hq], by show 1 ≤ 2; decide, hOF, hO0⟩)⟩)⟩
        · refine ⟨_, rfl, _, rfl, _, rfl, _, _, rfl, rfl, mo0, _, _, rfl, rfl, _, rfl, big 3 (by decide), fun t2 h2 => ?_⟩
          refine ⟨_, rfl, _, rfl, _, rfl, _, rfl, _, _, rfl, rfl, mo0, _, _, rfl, rfl, big 3 (by decide), fun t3 h3 => ⟨big 2 (by decide), fun O2 hO2 => ?_⟩⟩
          refine gn ?_
          have m3 := Gm.same_new h2 (.tup [V.str t.1, V.int (t.2.1 % mo + 1), V.int t.2.2])
          have m4 := Gm.same_new h3 (.tup [V.str t.1, V.int t.2.1, V.int (t.2.2 % mo + 1)])
          have m5 := Gm.same_new hO2 (.lst [V.ref t2, V.ref t3])
          obtain ⟨xs0, Fs0, a0, g0, l0⟩ := (fnO.same (m3.trans m4)).ex
          refine k1 _ _ ⟨O2, [V.ref t2, V.ref t3], [(t.1, t.2.1 % mo + 1, t.2.2), (t.1, t.2.1, t.2.2 % mo + 1)], rfl, fnO.same (m3.trans (m4.trans m5)), upd_same, ?_, fun q hq => ?_, by show 2 ≤ 2; decide, (ne_of_none a0.l hO2).symm, none_of_same a0.s hO2⟩
          · exact .cons (dp_mono (m4.trans m5) _ _ (.tup (SqT.of upd_same) (.cons (.str _) (.cons (.int _) (.cons (.int _) .nil))))) (.cons (dp_mono m5 _ _ (.tup (SqT.of upd_same) (.cons (.str _) (.cons (.int _) (.cons (.int _) .nil))))) .nil)
          · rcases List.mem_cons.mp hq with rfl | hq
            · rfl
            · rw [List.mem_singleton.mp hq]
        · have z2 := of_decide_eq_true z2
          refine ⟨_, rfl, .inl ⟨rfl, [V.ref t1], SqL.of eO⟩, ?_⟩
          refine ⟨_, rfl, _, rfl, _, rfl, _, _, rfl, rfl, .inl ⟨_, rfl, _, rfl, _, _, rfl, rfl, by omega, big 3 (by decide), fun t2 h2 => ?_⟩⟩
          have m3 := Gm.same_new h2 (.tup [V.str t.1, V.int t.2.1, V.int ((t.2.2 + 1) % t.2.1)])
          have e3 := m3 _ _ eO
          have d3' : Dp K (upd H4 t2 (.tup [V.str t.1, V.int t.2.1, V.int ((t.2.2 + 1) % t.2.1)])) (.ref t2) (trip (t.1, t.2.1, (t.2.2 + 1) % t.2.1)) := .tup (SqT.of upd_same) (.cons (.str _) (.cons (.int _) (.cons (.int _) .nil)))
          have fn3 := fnO.same m3
          have tp := Tups.lst (o := .lst ([V.ref t1] ++ [V.ref t2])) e3
          obtain ⟨xs0, Fs0, a0, g0, l0⟩ := fn3.ex
          refine ⟨O, _, _, rfl, rfl, e3, big' _ (by show 1 ≤ 100000; decide), k1 _ _ ⟨O, [V.ref t1] ++ [V.ref t2], _ ++ [(t.1, t.2.1, (t.2.2 + 1) % t.2.1)], rfl, ⟨xs0, Fs0, ⟨fun b o e => by rw [upd_ne (ne_of_none e hO0)]; exact a0.s _ _ e, a0.f, by rw [upd_ne hOF.symm]; exact a0.l, dp_tupsAll tp _ _ a0.n a0.d, a0.n⟩, g0, l0⟩, upd_same, by rw [List.map_append]; exact DpAll.app (dp_tupsAll tp _ _ (nolAll_trips _) (dp_monoAll m3 _ _ dO)) (.cons (dp_tups tp _ _ (nol_trip _) d3') .nil), fun q hq => ?_, by show 2 ≤ 2; decide, hOF, hO0⟩⟩
          rcases List.mem_append.mp hq with hq | hq
          · rw [List.mem_singleton.mp hq]
          · rw [List.mem_singleton.mp hq]
      rintro σ H5 ⟨O', os, qs, rfl, fn, eO, dO, hqs, lO, nO, hO0⟩
      have loq : os.length = qs.length := (DpAll.len dO).trans (List.length_map _)
      refine ⟨_, rfl, O', rfl, ⟨_, SqL.of eO⟩, ?_⟩
      refine for_list (K := K) (a := O') (xs := os) (fun i σ H' => ∃ y10, σ = [some (.ref ga), some (.ref F), some (.int (kd : Int)), some (.ref ra), some (.int (j : Int)), some (.str t.1), some (.int t.2.1), some (.int t.2.2), some (.int mo), some (.ref O'), y10] ∧ Fnd K H H' F G (11 * kd + 3 * j + i) ∧ H' O' = some (.lst os) ∧ DpAll K H' os (qs.map trip)) ⟨_, rfl, fn, eO, dO⟩ (fun i σ H' _ ⟨_, _, _, e, _⟩ => SqL.of e) ?_ ?_
      · rintro i x σ H6 hx ⟨y10, rfl, fn, eO, dO⟩
        have hi := (List.getElem?_eq_some_iff.mp hx).1
        obtain ⟨q', b, eq, rfl, hb⟩ := trip_at dO hx
        refine gn ?_
        obtain ⟨xs0, Fs0, a0, g0, l0⟩ := fn.ex
        refine ⟨_, rfl, .inl ⟨rfl, xs0, SqL.of a0.l⟩, ?_⟩
        refine put_rd (i := 0) (j := 2) (k := kd) rfl rfl (sqT_mono fn.s hg) (by show 4 ≤ 100; decide) fun H7 m7 C c => ?_
        refine put_rd (i := 3) (j := 4) (k := j) rfl rfl (sqT_mono (fn.s.trans m7) hra) (by omega) fun H8 m8 C2 c2 => ?_
        refine ⟨_, rfl, c2 _ _ (Same.refl _) fun p H9 m9 hp => c _ _ (m8.trans m9) fun p2 H10 m10 hp2 => ?_⟩
        have mm := m7.trans ((m8.trans m9).trans m10)
        have fn10 := fn.same mm
        have drs10 := dp_monoAll fn10.s _ _ drs
        have dp10 : Dp K H10 (.ref p) (trips ((G.rw kd).take j ++ [q'] ++ (G.rw kd).drop (j + 1))) := .tup (sqT_mono m10 hp) (by
          rw [List.map_append, List.map_append, List.map_take, List.map_drop]
          exact DpAll.app (DpAll.app (DpAll.take j drs10) (.cons (.tup (sqT_mono mm hb) (.cons (.str _) (.cons (.int _) (.cons (.int _) .nil)))) .nil)) (DpAll.drop (j + 1) drs10))
        obtain ⟨xs9, e9, l9, fn11⟩ := fn10.put (by omega) (gm (H2 := H) fn10.s dp10 hp2) (go_rows gd kd fun t' ht' => by
          rcases List.mem_append.mp ht' with ht' | ht'
          · rcases List.mem_append.mp ht' with ht' | ht'
            · exact (gd.rn t' (List.mem_of_mem_take ht')).1
            · rw [List.mem_singleton.mp ht', hqs q' (List.mem_of_getElem? eq)]
              exact tn
          · exact (gd.rn t' (List.mem_of_mem_drop ht')).1)
        refine ⟨F, xs9, _, rfl, rfl, e9, l9, _, rfl, fn11, by rw [upd_ne nO]; exact mm _ _ eO, dp_tupsAll (Tups.lst e9) _ _ (nolAll_trips _) (dp_monoAll mm _ _ dO)⟩
      rintro σ H6 ⟨y10, rfl, fn, eO, dO⟩
      have fn := fn.mono (show 11 * kd + 3 * j + os.length ≤ 11 * kd + 3 * j + 2 by omega)
      obtain ⟨xs0, Fs0, a0, g0, l0⟩ := fn.ex
      refine ⟨_, rfl, .inl ⟨rfl, xs0, SqL.of a0.l⟩, ?_⟩
      refine ⟨_, rfl, big 3 (by decide), fun t2 h2 => ?_⟩
      have m2 := Gm.same_new h2 (.tup [V.str "variable", V.str "table", V.str "lots"])
      have fn7 := fn.same m2
      have ekn : atI [V.str "variable", V.str "table", V.str "lots"] (kd : Int) = some (.str (kdOf kd)) := by
        have hk3 : kd = 0 ∨ kd = 1 ∨ kd = 2 := by omega
        rcases hk3 with rfl | rfl | rfl <;> rfl
      have hkk : kdOf kd ∈ kinds := by
        have hk3 : kd = 0 ∨ kd = 1 ∨ kd = 2 := by omega
        rcases hk3 with rfl | rfl | rfl <;> (show _ ∈ kinds; decide +kernel)
      refine ⟨_, rfl, t2, _, _, _, rfl, rfl, SqT.of upd_same, ekn, _, rfl, .ref ga, G, ⟨kdOf kd, t.1, "zz"⟩, rfl, dp_mono fn7.s _ _ dv, gd.sz.f, hkk, fun p hp => ⟨by have := (gd.pr p hp).2.2.2.2.2.2.1; omega, by have := (gd.pr p hp).2.2.2.2.1.2.2; omega⟩, ⟨by omega, by omega, by omega, by have := gd.pl; omega⟩, fun u H8 m8 du => ?_⟩
      have fn8 := fn7.same m8
      obtain ⟨xs9, e9, l9, fn9⟩ := fn8.put (by omega) du (un_name gd hkd hm)
      exact ⟨F, xs9, _, rfl, rfl, e9, l9, _, _, _, _, _, _, _, rfl, fn9⟩
    · rintro σ H2 ⟨y4, y5, y6, y7, y8, y9, y10, rfl, fn⟩
      have rn := gd.rn (k := kd)
      have hrows : ∀ H', Fnd K H H' F G (11 * kd + 9) → SqT K H' ra rs ∧ SqT K H' ga [v0, v1, v2, v3] := fun H' f => ⟨sqT_mono f.s hra, sqT_mono f.s hg⟩
      have fn := fn.mono (show 11 * kd + 3 * rs.length ≤ 11 * kd + 9 by omega)
      obtain ⟨xs0, Fs0, a0, g0, l0⟩ := fn.ex
      refine ⟨_, rfl, .inl ⟨rfl, xs0, SqL.of a0.l⟩, ?_⟩
      refine put_rd (i := 0) (j := 2) (k := kd) rfl rfl (hrows _ fn).2 (by show 4 ≤ 100; decide) fun H3 m3 C c => ?_
      refine ⟨_, rfl, _, rfl, rfl, ra, rs, rfl, sqT_mono m3 (hrows _ fn).1, fun t ht => ?_⟩
      have m4 := Gm.same_new ht (.tup rs.reverse)
      refine c _ _ m4 fun p H5 m5 hp => ?_
      have mm := m3.trans (m4.trans m5)
      have fn5 := fn.same mm
      have dr5 : Dp K H5 (.ref t) (trips (G.rw kd).reverse) := .tup (sqT_mono m5 (SqT.of upd_same)) (by rw [List.map_reverse]; exact dps_rev (dp_monoAll (fn5.s) _ _ drs))
      obtain ⟨xs5, e5, l5, fn6⟩ := fn5.put (by omega) (gm (H2 := H) fn5.s dr5 hp) (go_rows gd kd fun t ht => (rn t (List.mem_reverse.mp ht)).1)
      refine ⟨F, xs5, _, rfl, rfl, e5, l5, ?_⟩
      revert fn6
      generalize upd H5 F (.lst (xs5 ++ [.ref p])) = H6
      intro fn6
      obtain ⟨xs1, Fs1, a1, g1, l1⟩ := fn6.ex
      refine ⟨_, rfl, .inl ⟨rfl, xs1, SqL.of a1.l⟩, ?_⟩
      refine put_rd (i := 0) (j := 2) (k := kd) rfl rfl (sqT_mono fn6.s hg) (by show 4 ≤ 100; decide) fun H7 m7 C c => ?_
      refine ⟨_, rfl, big 3 (by decide), fun tz htz => ⟨big 1 (by decide), fun t1 ht1 => ?_⟩⟩
      have mz := Gm.same_new htz (.tup [V.str "zz", V.int 2, V.int 1])
      have mt := Gm.same_new ht1 (.tup [V.ref tz])
      refine ⟨ra, t1, _, _, rfl, rfl, sqT_mono (m7.trans (mz.trans mt)) (sqT_mono fn6.s hra), SqT.of upd_same, by show rs.length + 1 ≤ sizeLine; exact big _ (by omega), fun c2 H8 m8 hc2 => ?_⟩
      refine c _ _ (mz.trans (mt.trans m8)) fun p2 H9 m9 hp2 => ?_
      have fn9 := fn6.same (m7.trans ((mz.trans (mt.trans m8)).trans m9))
      have dz : Dp K H9 (.ref tz) (trip (("zz" : Str), 2, 1)) := dp_mono (mt.trans (m8.trans m9)) _ _ (.tup (SqT.of upd_same) (.cons (.str _) (.cons (.int _) (.cons (.int _) .nil))))
      have dr9 : Dp K H9 (.ref c2) (trips (G.rw kd ++ [(("zz" : Str), 2, 1)])) := .tup (sqT_mono m9 hc2) (by rw [List.map_append]; exact DpAll.app (dp_monoAll fn9.s _ _ drs) (.cons dz .nil))
      obtain ⟨xs9, e9, l9, fn10⟩ := fn9.put (by omega) (gm (H2 := H) fn9.s dr9 hp2) (go_rows gd kd fun t ht => by
        rcases List.mem_append.mp ht with ht | ht
        · exact (rn t ht).1
        · rw [List.mem_singleton.mp ht]
          exact zz_nm)
      exact ⟨F, xs9, _, rfl, rfl, e9, l9, _, _, _, _, _, _, _, _, _, rfl, fn10.mono (by omega)⟩
  · rintro σ H1 ⟨y2, y3, y4, y5, y6, y7, y8, y9, y10, rfl, fn⟩
    obtain ⟨xs, Fs, a, g, l⟩ := fn.ex
    exact ⟨_, rfl, q F xs Fs H1 a.s hF a.l a.d g (by omega)⟩
end
end Toy
set_option Elab.async false
set_option linter.all false
set_option maxRecDepth 100000
set_option maxHeartbeats 8000000
namespace Toy
open PySem L2 NdefX Gm
open Mine hiding same_new
open Pz (But)
/-- a procedure in the place of p -/
structure OkP (p p' : Pr) : Prop where
  b : p'.block = p.block ∨ p'.block.len ≠ p.block.len
  f : PrF_ 6 6 p'
  t : p'.block.tot ≤ 700
theorem app_tot : ∀ a b : Blk, (a.app b).tot = a.tot + b.tot
  | .nil, b => by rw [Blk.app, tot_nil]; omega
  | .cons s r, b => by rw [Blk.app, tot_cons, tot_cons, app_tot r b]; omega
theorem app_fit {k d : Nat} : ∀ {a b : Blk}, blF k d a → blF k d b → blF k d (a.app b)
  | .nil, b, _, hb => by rw [Blk.app]; exact hb
  | .cons s r, b, ha, hb => by rw [Blk.app]; unfold blF at ha ⊢; exact ⟨ha.1, app_fit ha.2 hb⟩
theorem tl_is (b : Blk) : ∃ c : Blk, c.ds = b.ds.drop 1 ∧ (c = b ∨ c.len ≠ b.len) ∧ c.tot ≤ b.tot ∧ (∀ {k d : Nat}, blF k d b → blF k d c) := by
  cases b with
  | nil => exact ⟨.nil, rfl, .inl rfl, Nat.le_refl _, fun h => h⟩
  | cons s r =>
    refine ⟨r, by rw [show (Blk.cons s r).ds = s.d :: r.ds from by rw [Blk.ds]]; rfl, .inr ?_, by rw [tot_cons]; omega, fun h => ?_⟩
    · show r.len ≠ r.len + 1
      omega
    · unfold blF at h
      exact h.2
theorem acc_cat {K : PySem.W.Frag} {H0 H : Hp} {R R' : Addr} {xs ys : List V} {ds es : List PyData} (a : Acc K H0 H R xs ds) (hd : DpAll K H ys es) (hn : nolAll es = true) (h : H R' = none) : Acc K H0 (upd H R' (.lst (xs ++ ys))) R' (xs ++ ys) (ds ++ es) :=
  ⟨a.s.trans (Gm.same_new h _), none_of_same a.s h, upd_same, dp_monoAll (Gm.same_new h _) _ _ (DpAll.app a.d hd), by rw [nolAll_app, a.n, hn]; rfl⟩
section
variable {P : Program} {w : World} {K : PySem.W.Frag} {mg : Str → Option Value} {base : Heap} {file : Str}
theorem ok_procs (T : Txt K mg file) : FnOk P w K mg base CX0 22 T.a_law_procs T.fd_law_procs ["game"] (spRows K) := by
  have G_law_named : FnOk P w K mg base CX0 20 T.a_law_named T.fd_law_named ["game", "kind", "old", "new"] (spLN K) := ok_ln T
  refine T.F_law_procs.ok sc_law_procs (fun vs H Q E h => ?_) (fun cdv A outer s H vs Q E hr h => ?_)
  · obtain ⟨v, G, rfl, _⟩ := h
    rfl
  obtain ⟨v, G, rfl, dv, gd, q⟩ := h
  refine ⟨_, (pss_cons (ps_set (i := 1) sc_law_procs.nd rfl (Or.inl rfl) (pe_lst (pa_cons (pe_op (CatB.op_catB K rfl) (pe_slice (slTB K rfl) (pv 0) po_none (po_some pe_int)) (pe_tup (pa_cons (SlT.pe_sliceT K rfl (pe_ix ix_tup (pv 0) pe_int (fun _ _ => rfl)) (pe_un un_neg pe_int)) pa_nil))) (pa_cons (pe_op (CatB.op_catB K rfl) (pe_slice (slTB K rfl) (pv 0) po_none (po_some pe_int)) (pe_tup (pa_cons (pe_slice (slTB K rfl) (pe_ix ix_tup (pv 0) pe_int (fun _ _ => rfl)) (po_some pe_int) po_none) pa_nil))) (pa_cons (pe_call G_law_named (hr.mono (by omega)) rfl T.g_law_named T.k_law_named T.b_law_named .nil pass0 (pa_cons (pv 0) (pa_cons pe_str (pa_cons pe_str (pa_cons pe_str pa_nil))))) pa_nil)))))
    (pss_cons (ps_for PassesOwn.never rfl (pi_range1 (by rfl) T.z_range (pa_cons (pe_callB call_len_seq (by rfl) T.z_len (by decide +kernel) (pa_cons (pe_ix ix_tup (pv 0) pe_int (fun _ _ => rfl)) pa_nil)) pa_nil)) (pg_name (i := 2) sc_law_procs.nd rfl (Or.inl rfl))
      (pss_cons (ps_asg (pe_ix ix_tup (pe_ix ix_tup (pv 0) pe_int (fun _ _ => rfl)) (pv 2) (fun _ _ => rfl)) (pg_tup rfl (pgs_cons (pg_name (i := 3) sc_law_procs.nd rfl (Or.inl rfl)) (pgs_cons (pg_name (i := 4) sc_law_procs.nd rfl (Or.inl rfl)) (pgs_cons (pg_name (i := 5) sc_law_procs.nd rfl (Or.inl rfl)) (pgs_cons (pg_name (i := 6) sc_law_procs.nd rfl (Or.inl rfl)) (pgs_cons (pg_name (i := 7) sc_law_procs.nd rfl (Or.inl rfl)) (pgs_cons (pg_name (i := 8) sc_law_procs.nd rfl (Or.inl rfl)) pgs_nil))))))))
    (pss_cons (ps_set (i := 9) sc_law_procs.nd rfl (Or.inl rfl) (pe_lst (pa_cons (pe_tup (pa_cons pe_str (pa_cons (pv 4) (pa_cons (pv 5) (pa_cons (pv 6) (pa_cons (pv 7) (pa_cons (pv 8) pa_nil))))))) (pa_cons (pe_tup (pa_cons (pv 3) (pa_cons (pe_op op_add (pe_op op_mod (pv 4) pe_int) pe_int) (pa_cons (pv 5) (pa_cons (pv 6) (pa_cons (pv 7) (pa_cons (pv 8) pa_nil))))))) pa_nil))))
    (pss_cons (ps_set (i := 9) sc_law_procs.nd rfl (Or.inl rfl) (pe_op op_cat (pv 9) (pe_lst (pa_cons (pe_tup (pa_cons (pv 3) (pa_cons (pv 4) (pa_cons (pe_op op_add (pe_op op_mod (pv 5) pe_int) pe_int) (pa_cons (pv 6) (pa_cons (pv 7) (pa_cons (pv 8) pa_nil))))))) (pa_cons (pe_tup (pa_cons (pv 3) (pa_cons (pv 4) (pa_cons (pv 5) (pa_cons (pe_op (CatB.op_catB K rfl) (pv 6) (pe_tup (pa_cons pe_str pa_nil))) (pa_cons (pv 7) (pa_cons (pv 8) pa_nil))))))) pa_nil)))))
    (pss_cons (ps_expr (pe_bm PySem.F.plainAttrs_list PySem.F.slot_list_append PySem.F.type_list_append mt_append (pv 9) (pa_cons (pe_tup (pa_cons (pv 3) (pa_cons (pv 4) (pa_cons (pv 5) (pa_cons (pv 6) (pa_cons (pe_op (CatB.op_catB K rfl) (pv 7) (pe_tup (pa_cons (pe_tup (pa_cons pe_str (pa_cons (pe_ix ix_tup (pv 6) pe_int (fun _ _ => rfl)) (pa_cons (pe_tup (pa_cons pe_str (pa_cons pe_int pa_nil))) pa_nil)))) pa_nil))) (pa_cons (pv 8) pa_nil))))))) pa_nil)))
    (pss_cons (ps_set (i := 9) sc_law_procs.nd rfl (Or.inl rfl) (pe_op op_cat (pv 9) (pe_lst (pa_cons (pe_tup (pa_cons (pv 3) (pa_cons (pv 4) (pa_cons (pv 5) (pa_cons (pv 6) (pa_cons (pe_slice (slTB K rfl) (pv 7) (po_some pe_int) po_none) (pa_cons (pv 8) pa_nil))))))) (pa_cons (pe_tup (pa_cons (pv 3) (pa_cons (pv 4) (pa_cons (pv 5) (pa_cons (pv 6) (pa_cons (pv 7) (pa_cons (pe_tup (pa_cons pe_str (pa_cons (pv 8) (pa_cons (pe_tup (pa_cons pe_str (pa_cons pe_int pa_nil))) pa_nil)))) pa_nil))))))) pa_nil)))))
    (pss_one (ps_for PassesOwn.never rfl (pi_list (pv 9)) (pg_name (i := 10) sc_law_procs.nd rfl (Or.inl rfl))
      (pss_one (ps_expr (pe_bm PySem.F.plainAttrs_list PySem.F.slot_list_append PySem.F.type_list_append mt_append (pv 1) (pa_cons (pe_op (CatB.op_catB K rfl) (pe_slice (slTB K rfl) (pv 0) po_none (po_some pe_int)) (pe_tup (pa_cons (pe_op (CatB.op_catB K rfl) (pe_op (CatB.op_catB K rfl) (pe_slice (slTB K rfl) (pe_ix ix_tup (pv 0) pe_int (fun _ _ => rfl)) po_none (po_some (pv 2))) (pe_tup (pa_cons (pv 10) pa_nil))) (pe_slice (slTB K rfl) (pe_ix ix_tup (pv 0) pe_int (fun _ _ => rfl)) (po_some (pe_op op_add (pv 2) pe_int)) po_none)) pa_nil))) pa_nil))))))))))))
    (pss_one (ps_ret (pv 1))))), ?_⟩
  obtain ⟨ga, v0, v1, v2, v3, rfl, hg, d0, d1, d2, d3⟩ := four_inv dv
  obtain ⟨pa, ps, rfl, hpa, dps⟩ := dp_inv d3
  have lps : ps.length = G.procs.length := (DpAll.len dps).trans (List.length_map _)
  have lp2 := gd.pl
  have setP_dp : ∀ {H' : Hp} {c : Addr} {u : V} {qs : List Pr}, Same H H' → SqT K H' c ([v0, v1, v2] ++ [u]) → Dp K H' u (.tuple (qs.map Pr.d)) → Dp K H' (.ref c) (G.setP qs).d := fun {H' c u qs} m hs du => by
    have hs : SqT K H' c [v0, v1, v2, u] := hs
    show Dp K H' (.ref c) (.tuple [trips G.vars, trips G.tabs, trips G.lots, .tuple (qs.map Pr.d)])
    exact .tup hs (.cons (dp_mono m _ _ d0) (.cons (dp_mono m _ _ d1) (.cons (dp_mono m _ _ d2) (.cons du .nil))))
  refine ⟨_, rfl, _, rfl, ga, _, rfl, hg, fun c1 H1 m1 hc1 => ⟨_, rfl, ga, _, 3, _, rfl, rfl, sqT_mono m1 hg, atI_nat (j := 3) rfl, _, rfl, rfl, pa, ps, rfl, sqT_mono m1 hpa, fun t ht => ⟨big 1 (by decide), fun t1 ht1 => ?_⟩⟩⟩
  have hc1 : SqT K H1 c1 [v0, v1, v2] := hc1
  have m2 := Gm.same_new ht (.tup ps.reverse)
  have m3 := Gm.same_new ht1 (.tup [V.ref t])
  refine ⟨c1, t1, _, _, rfl, rfl, sqT_mono (m2.trans m3) hc1, SqT.of upd_same, by show 3 + 1 ≤ sizeLine; decide, fun u1 H4 m4 hu1 => ?_⟩
  have m04 := m1.trans (m2.trans (m3.trans m4))
  have D1 : Dp K H4 (.ref u1) (G.setP G.procs.reverse).d := setP_dp m04 hu1 (.tup (sqT_mono (m3.trans m4) (SqT.of upd_same)) (by rw [List.map_reverse]; exact dps_rev (dp_monoAll m04 _ _ dps)))
  refine ⟨_, rfl, _, rfl, ga, _, rfl, sqT_mono m04 hg, fun c2 H5 m5 hc2 => ?_⟩
  have hc2 : SqT K H5 c2 [v0, v1, v2] := hc2
  refine ⟨_, rfl, ga, _, 3, _, rfl, rfl, sqT_mono (m04.trans m5) hg, atI_nat (j := 3) rfl, ((1 : Nat) : Int), rfl, pa, ps, rfl, sqT_mono (m04.trans m5) hpa, fun c3 H6 m6 hc3 => ⟨big 1 (by decide), fun t2 ht2 => ?_⟩⟩
  rw [Gm.cut_drop] at hc3
  have m7 := Gm.same_new ht2 (.tup [V.ref c3])
  refine ⟨c2, t2, _, _, rfl, rfl, sqT_mono (m6.trans m7) hc2, SqT.of upd_same, by show 3 + 1 ≤ sizeLine; decide, fun u2 H8 m8 hu2 => ?_⟩
  have m08 := m04.trans (m5.trans (m6.trans (m7.trans m8)))
  have D2 : Dp K H8 (.ref u2) (G.setP (G.procs.drop 1)).d := setP_dp m08 hu2 (.tup (sqT_mono (m7.trans m8) hc3) (by rw [List.map_drop]; exact DpAll.drop 1 (dp_monoAll m08 _ _ dps)))
  have hl := gd.len
  refine ⟨_, rfl, .ref ga, G, ⟨"local", "a", "zz"⟩, rfl, dp_mono m08 _ _ dv, gd.sz.f, by decide +kernel, fun p hp => ⟨by have := (gd.pr p hp).2.2.2.2.2.2.1; omega, by have := (gd.pr p hp).2.2.2.2.1.2.2; omega⟩, ⟨by omega, by omega, by omega, by omega⟩, fun u3 H9 m9 D3 => ⟨big 3 (by decide), fun F hF => ?_⟩⟩
  have m10 := Gm.same_new hF (.lst [V.ref u1, V.ref u2, u3])
  have m010 := (m08.trans m9).trans m10
  have fn : Fnd K H (upd H9 F (.lst [V.ref u1, V.ref u2, u3])) F G 3 := ⟨⟨[V.ref u1, V.ref u2, u3], [G.setP G.procs.reverse, G.setP (G.procs.drop 1), G.nm ⟨"local", "a", "zz"⟩], ⟨m010, none_of_same (m08.trans m9) hF, upd_same, .cons (dp_mono ((m5.trans (m6.trans (m7.trans m8))).trans (m9.trans m10)) _ _ D1) (.cons (dp_mono (m9.trans m10) _ _ D2) (.cons (dp_mono m10 _ _ D3) .nil)), nolAll_gas _⟩, fun f hf => by
    rcases List.mem_cons.mp hf with rfl | hf
    · exact go_rev gd
    rcases List.mem_cons.mp hf with rfl | hf
    · exact go_tail gd
    · rw [List.mem_singleton.mp hf]
      exact un_local gd, Nat.le_refl _⟩⟩
  refine gn ?_
  revert fn
  generalize upd H9 F (.lst [V.ref u1, V.ref u2, u3]) = HF
  intro fn
  clear D1 D2 D3 m10 m010 hF m9 m08 m8 m7 m6 m5 m04 m4 m3 m2 m1 hc1 hc2 hc3 hu1 hu2
  refine ⟨_, rfl, ga, _, 3, _, rfl, rfl, sqT_mono fn.s hg, atI_nat (j := 3) rfl, pa, ps, rfl, .inr (sqT_mono fn.s hpa), _, rfl, by omega, by omega, ?_⟩
  rw [show ((ps.length : Nat) : Int).toNat = ps.length by omega]
  refine for_range (lo := 0) (n := ps.length) (fun k σ H' => ∃ (y2 y3 y4 y5 y6 y7 y8 y9 y10 : Option V), σ = [some (.ref ga), some (.ref F), y2, y3, y4, y5, y6, y7, y8, y9, y10] ∧ Fnd K H H' F G (3 + 7 * k)) ⟨_, _, _, _, _, _, _, _, _, rfl, fn⟩ ?_ ?_
  · rintro k σ H2 hk ⟨y2, y3, y4, y5, y6, y7, y8, y9, y10, rfl, fn⟩
    refine gn ?_
    obtain ⟨p, ep⟩ : ∃ p, G.procs[k]? = some p := ⟨G.procs[k]'(by omega), List.getElem?_eq_getElem _⟩
    obtain ⟨x, ex, dp⟩ := DpAll.get (dp_monoAll fn.s _ _ dps) (show (G.procs.map Pr.d)[k]? = some p.d by rw [List.getElem?_map, ep]; rfl)
    obtain ⟨ra, vl, vb, vr, rfl, hra, dl, db, dr⟩ := pr6 dp
    have hm := List.mem_of_getElem? ep
    obtain ⟨pn, pz, psz, pans, ⟨pl1, pl2, pl3⟩, pbf, pbt, prf⟩ := gd.pr p hm
    obtain ⟨la, ls, rfl, hla, dls⟩ := dp_inv dl
    rw [dps_strs dls] at hla
    obtain ⟨ba, bs, rfl, hba, dbs⟩ := dp_inv db
    have ek : V.int (0 + (k : Int)) = .int ((k : Nat) : Int) := by rw [Int.zero_add]
    refine ⟨_, rfl, ga, _, 3, _, rfl, rfl, sqT_mono fn.s hg, atI_nat (j := 3) rfl, _, rfl, pa, ps, _, _, rfl, rfl, sqT_mono fn.s hpa, at_of (j := k) (by omega) ex, ra, _, rfl, hra, rfl, _, _, rfl, ?_⟩
    refine gn ?_
    refine ⟨_, _, rfl, ?_⟩
    refine gn ?_
    refine ⟨_, _, rfl, ?_⟩
    refine gn ?_
    refine ⟨_, _, rfl, ?_⟩
    refine gn ?_
    refine ⟨_, _, rfl, ?_⟩
    refine gn ?_
    refine ⟨_, _, rfl, ?_⟩
    refine gn ?_
    refine ⟨rfl, ?_⟩
    rw [ek]
    have pf : PrF_ 6 6 p := gd.sz.f.procs p hm
    have st : ∀ {H' : Hp}, Same H2 H' → Dp K H' (.ref la) (strD p.locs) ∧ Dp K H' (.ref ba) p.block.d ∧ Dp K H' vr p.res.d := fun m => ⟨.tup (sqT_mono m hla) (dp_strs _), .tup (sqT_mono m hba) (dp_monoAll m _ _ dbs), dp_mono m _ _ dr⟩
    obtain ⟨x0, lr, el⟩ : ∃ x0 lr, p.locs = x0 :: lr := by
      cases h : p.locs with
      | nil => rw [h] at pl2; cases pl2
      | cons a r => exact ⟨_, _, rfl⟩
    have lbs : bs.length ≤ 30 := by
      have h1 := DpAll.len dbs
      rw [Blk.ds_l, List.length_map] at h1
      have := blk_len_tot p.block
      omega
    -- the first two
    refine ⟨_, rfl, _, rfl, _, rfl, _, rfl, _, rfl, big 6 (by decide), fun t1 h1 => ?_⟩
    refine ⟨_, rfl, _, rfl, _, _, rfl, rfl, (by show (0 : Int) < 64; decide), _, _, rfl, rfl, _, rfl, _, rfl, _, rfl, _, rfl, big 6 (by decide), fun t2 h2 => ⟨big 2 (by decide), fun R1 hR1 => ?_⟩⟩
    refine gn ?_
    have m1 := Gm.same_new h1 (.tup [V.str "zz", V.int p.size, V.int p.ans, V.ref la, V.ref ba, vr])
    have m2 := Gm.same_new h2 (.tup [V.str p.name, V.int (p.size % 64 + 1), V.int p.ans, V.ref la, V.ref ba, vr])
    have m3 := Gm.same_new hR1 (.lst [V.ref t1, V.ref t2])
    have m13 := m1.trans (m2.trans m3)
    have st3 := st m13
    have a1 : Acc K H2 (upd (upd (upd H2 t1 (.tup [V.str "zz", V.int p.size, V.int p.ans, V.ref la, V.ref ba, vr])) t2 (.tup [V.str p.name, V.int (p.size % 64 + 1), V.int p.ans, V.ref la, V.ref ba, vr])) R1 (.lst [V.ref t1, V.ref t2])) R1 [V.ref t1, V.ref t2] ([({ p with name := "zz" } : Pr), { p with size := p.size % 64 + 1 }].map Pr.d) :=
      ⟨m13, none_of_same (m1.trans m2) hR1, upd_same, .cons (pr6_mk (p := { p with name := "zz" }) (sqT_mono (m2.trans m3) (SqT.of upd_same)) st3.1 st3.2.1 st3.2.2) (.cons (pr6_mk (p := { p with size := p.size % 64 + 1 }) (sqT_mono m3 (SqT.of upd_same)) st3.1 st3.2.1 st3.2.2) .nil), nolAll_procs _⟩
    revert a1
    generalize upd (upd (upd H2 t1 (.tup [V.str "zz", V.int p.size, V.int p.ans, V.ref la, V.ref ba, vr])) t2 (.tup [V.str p.name, V.int (p.size % 64 + 1), V.int p.ans, V.ref la, V.ref ba, vr])) R1 (.lst [V.ref t1, V.ref t2]) = H3
    intro a1
    clear m1 m2 m3 m13 st3 h1 h2 hR1
    -- two more
    refine ⟨_, rfl, _, rfl, _, rfl, _, rfl, _, _, rfl, rfl, (by show (0 : Int) < 64; decide), _, _, rfl, rfl, _, rfl, _, rfl, _, rfl, big 6 (by decide), fun t3 h3 => ?_⟩
    have m3 := Gm.same_new h3 (.tup [V.str p.name, V.int p.size, V.int (p.ans % 64 + 1), V.ref la, V.ref ba, vr])
    refine ⟨_, rfl, _, rfl, _, rfl, _, rfl, big 1 (by decide), fun tz hz => ?_⟩
    have mz := Gm.same_new hz (.tup [V.str "zz"])
    refine ⟨la, tz, _, _, rfl, rfl, sqT_mono (a1.s.trans (m3.trans mz)) hla, SqT.of upd_same, big _ (by rw [List.length_map]; show p.locs.length + 1 ≤ _; omega), fun c4 H4 m4 hc4 => ?_⟩
    refine ⟨_, rfl, _, rfl, big 6 (by decide), fun t4 h4 => ⟨big 2 (by decide), fun L2 hL2 => ?_⟩⟩
    have m5 := Gm.same_new h4 (.tup [V.str p.name, V.int p.size, V.int p.ans, V.ref c4, V.ref ba, vr])
    have m6 := Gm.same_new hL2 (.lst [V.ref t3, V.ref t4])
    have m36 := m3.trans (mz.trans (m4.trans (m5.trans m6)))
    have st6 := st (a1.s.trans m36)
    have a2 := a1.grow m36
    have dl4 : Dp K _ (.ref c4) (strD (p.locs ++ [("zz" : Str)])) := .tup (sqT_mono (m5.trans m6) hc4) (by rw [List.map_append]; exact DpAll.app (dp_strs _) (.cons (.str _) .nil))
    refine ⟨R1, L2, _, _, rfl, rfl, a2.l, upd_same, by show 2 + 2 ≤ sizeLine; decide, fun R2 hR2 => ?_⟩
    refine gn ?_
    have a3 := acc_cat a2 (ys := [V.ref t3, V.ref t4]) (es := ([({ p with ans := p.ans % 64 + 1 } : Pr), { p with locs := p.locs ++ [("zz" : Str)] }].map Pr.d)) (.cons (pr6_mk (p := { p with ans := p.ans % 64 + 1 }) (sqT_mono (mz.trans (m4.trans (m5.trans m6))) (SqT.of upd_same)) st6.1 st6.2.1 st6.2.2) (.cons (pr6_mk (p := { p with locs := p.locs ++ [("zz" : Str)] }) (sqT_mono m6 (SqT.of upd_same)) dl4 st6.2.1 st6.2.2) .nil)) (nolAll_procs _) hR2
    rw [← List.map_append] at a3
    revert a3
    generalize upd (upd (upd H4 t4 (.tup [V.str p.name, V.int p.size, V.int p.ans, V.ref c4, V.ref ba, vr])) L2 (.lst [V.ref t3, V.ref t4])) R2 (.lst ([V.ref t1, V.ref t2] ++ [V.ref t3, V.ref t4])) = H5
    intro a3
    clear dl4 a2 st6 m36 m6 m5 hL2 h4 hc4 m4 mz hz m3 h3 a1 hR2
    -- one statement more
    refine ⟨_, rfl, .inl ⟨rfl, _, SqL.of a3.l⟩, ?_⟩
    rw [el] at hla
    refine ⟨_, rfl, _, rfl, _, rfl, _, rfl, _, rfl, _, rfl, la, _, 0, _, rfl, rfl, sqT_mono a3.s hla, atI_nat (j := 0) rfl, big 2 (by decide), fun tn hn => ⟨big 3 (by decide), fun tl htl => ⟨big 1 (by decide), fun tb htb => ?_⟩⟩⟩
    have m1 := Gm.same_new hn (.tup [V.str "number", V.int 3])
    have m2 := Gm.same_new htl (.tup [V.str "let", V.str x0, V.ref tn])
    have m3 := Gm.same_new htb (.tup [V.ref tl])
    have m13 := m1.trans (m2.trans m3)
    refine ⟨ba, tb, _, _, rfl, rfl, sqT_mono (a3.s.trans m13) hba, SqT.of upd_same, by show bs.length + 1 ≤ sizeLine; exact big _ (by omega), fun c5 H6 m6 hc5 => ?_⟩
    refine ⟨_, rfl, big 6 (by decide), fun t5 h5 => ?_⟩
    have m7 := Gm.same_new h5 (.tup [V.str p.name, V.int p.size, V.int p.ans, V.ref la, V.ref c5, vr])
    have m17 := m13.trans (m6.trans m7)
    have a4 := a3.grow m17
    have st7 := st a4.s
    have dst : Dp K (upd H6 t5 (.tup [V.str p.name, V.int p.size, V.int p.ans, V.ref la, V.ref c5, vr])) (.ref tl) (Stm.lt x0 (.num 3)).d := dp_mono (m3.trans (m6.trans m7)) _ _ (.tup (SqT.of upd_same) (.cons (.str _) (.cons (.str _) (.cons (dp_mono m2 _ _ (.tup (SqT.of upd_same) (.cons (.str _) (.cons (.int _) .nil)))) .nil))))
    have db5 : Dp K (upd H6 t5 (.tup [V.str p.name, V.int p.size, V.int p.ans, V.ref la, V.ref c5, vr])) (.ref c5) (p.block.app (.cons (.lt x0 (.num 3)) .nil)).d := by
      show Dp K _ (.ref c5) (.tuple (p.block.app (.cons (.lt x0 (.num 3)) .nil)).ds)
      rw [Blk.ds_app]
      exact .tup (sqT_mono m7 hc5) (DpAll.app (dp_monoAll a4.s _ _ dbs) (.cons dst .nil))
    have a5 := a4.add (d := ({ p with block := p.block.app (.cons (.lt x0 (.num 3)) .nil) } : Pr).d) (pr6_mk (p := { p with block := p.block.app (.cons (.lt x0 (.num 3)) .nil) }) (SqT.of upd_same) st7.1 db5 st7.2.2) (Pr.nol _)
    refine ⟨R2, _, _, rfl, rfl, a4.l, by show 4 < sizeLine; decide, ?_⟩
    rw [← List.map_singleton (f := Pr.d), ← List.map_append] at a5
    revert a5
    generalize upd (upd H6 t5 (.tup [V.str p.name, V.int p.size, V.int p.ans, V.ref la, V.ref c5, vr])) R2 (.lst ([V.ref t1, V.ref t2] ++ [V.ref t3, V.ref t4] ++ [V.ref t5])) = H7
    intro a5
    clear db5 dst st7 a4 m17 m7 h5 hc5 m6 m13 m3 htb m2 htl m1 hn a3
    -- the last two
    obtain ⟨cb, ecb, bcb, tcb, fcb⟩ := tl_is p.block
    refine ⟨_, rfl, _, rfl, _, rfl, _, rfl, _, rfl, _, rfl, ((1 : Nat) : Int), rfl, ba, bs, rfl, sqT_mono a5.s hba, fun c6 H8 m8 hc6 => ⟨_, rfl, big 6 (by decide), fun t6 h6 => ?_⟩⟩
    rw [Gm.cut_drop] at hc6
    have m9 := Gm.same_new h6 (.tup [V.str p.name, V.int p.size, V.int p.ans, V.ref la, V.ref c6, vr])
    refine ⟨_, rfl, _, rfl, _, rfl, _, rfl, _, rfl, _, rfl, big 2 (by decide), fun tn hn => ⟨big 3 (by decide), fun tq htq => ⟨big 6 (by decide), fun t7 h7 => ⟨big 2 (by decide), fun L3 hL3 => ?_⟩⟩⟩⟩
    have m10 := Gm.same_new hn (.tup [V.str "number", V.int 1])
    have m11 := Gm.same_new htq (.tup [V.str "+", vr, V.ref tn])
    have m12 := Gm.same_new h7 (.tup [V.str p.name, V.int p.size, V.int p.ans, V.ref la, V.ref ba, V.ref tq])
    have m13 := Gm.same_new hL3 (.lst [V.ref t6, V.ref t7])
    have m1013 := m10.trans (m11.trans (m12.trans m13))
    have mm := m8.trans (m9.trans m1013)
    have a6 := a5.grow mm
    have st6 := st a6.s
    have db6 : Dp K (upd (upd (upd (upd (upd H8 t6 (.tup [V.str p.name, V.int p.size, V.int p.ans, V.ref la, V.ref c6, vr])) tn (.tup [V.str "number", V.int 1])) tq (.tup [V.str "+", vr, V.ref tn])) t7 (.tup [V.str p.name, V.int p.size, V.int p.ans, V.ref la, V.ref ba, V.ref tq])) L3 (.lst [V.ref t6, V.ref t7])) (.ref c6) cb.d := by
      show Dp K (upd (upd (upd (upd (upd H8 t6 (.tup [V.str p.name, V.int p.size, V.int p.ans, V.ref la, V.ref c6, vr])) tn (.tup [V.str "number", V.int 1])) tq (.tup [V.str "+", vr, V.ref tn])) t7 (.tup [V.str p.name, V.int p.size, V.int p.ans, V.ref la, V.ref ba, V.ref tq])) L3 (.lst [V.ref t6, V.ref t7])) (.ref c6) (.tuple cb.ds)
      rw [ecb]
      exact .tup (sqT_mono (m9.trans m1013) hc6) (DpAll.drop 1 (dp_monoAll a6.s _ _ dbs))
    have de6 : Dp K (upd (upd (upd (upd (upd H8 t6 (.tup [V.str p.name, V.int p.size, V.int p.ans, V.ref la, V.ref c6, vr])) tn (.tup [V.str "number", V.int 1])) tq (.tup [V.str "+", vr, V.ref tn])) t7 (.tup [V.str p.name, V.int p.size, V.int p.ans, V.ref la, V.ref ba, V.ref tq])) L3 (.lst [V.ref t6, V.ref t7])) (.ref tq) (Ex.op "+" p.res (.num 1)).d := dp_mono (m12.trans m13) _ _ (.tup (SqT.of upd_same) (.cons (.str _) (.cons (dp_mono (a5.s.trans (m8.trans (m9.trans (m10.trans m11)))) _ _ dr) (.cons (dp_mono m11 _ _ (.tup (SqT.of upd_same) (.cons (.str _) (.cons (.int _) .nil)))) .nil))))
    refine ⟨R2, L3, _, _, rfl, rfl, a6.l, upd_same, by show 5 + 2 ≤ sizeLine; decide, fun R3 hR3 => ?_⟩
    refine gn ?_
    have a7 := acc_cat a6 (ys := [V.ref t6, V.ref t7]) (es := ([({ p with block := cb } : Pr), { p with res := .op "+" p.res (.num 1) }].map Pr.d)) (.cons (pr6_mk (p := { p with block := cb }) (sqT_mono m1013 (SqT.of upd_same)) st6.1 db6 st6.2.2) (.cons (pr6_mk (p := { p with res := .op "+" p.res (.num 1) }) (sqT_mono m13 (SqT.of upd_same)) st6.1 st6.2.1 de6) .nil)) (nolAll_procs _) hR3
    rw [← List.map_append] at a7
    have oks : ∀ q ∈ ([({ p with name := "zz" } : Pr), { p with size := p.size % 64 + 1 }] ++ [({ p with ans := p.ans % 64 + 1 } : Pr), { p with locs := p.locs ++ [("zz" : Str)] }] ++ [({ p with block := p.block.app (.cons (.lt x0 (.num 3)) .nil) } : Pr)] ++ [({ p with block := cb } : Pr), { p with res := .op "+" p.res (.num 1) }]), OkP p q := by
      have zn : nmB ("zz" : Str) = true := zz_nm
      have pt : p.block.tot ≤ 700 := by omega
      intro q hq
      simp only [List.append_assoc, List.cons_append, List.nil_append, List.mem_cons, List.not_mem_nil, or_false] at hq
      rcases hq with rfl | rfl | rfl | rfl | rfl | rfl | rfl
      · exact ⟨.inl rfl, ⟨zn, pf.locs, pf.block, pf.res⟩, pt⟩
      · exact ⟨.inl rfl, ⟨pf.name, pf.locs, pf.block, pf.res⟩, pt⟩
      · exact ⟨.inl rfl, ⟨pf.name, pf.locs, pf.block, pf.res⟩, pt⟩
      · refine ⟨.inl rfl, ⟨pf.name, fun x hx => ?_, pf.block, pf.res⟩, pt⟩
        rcases List.mem_append.mp hx with hx | hx
        · exact pf.locs x hx
        · rw [List.mem_singleton.mp hx]
          exact zn
      · refine ⟨.inr ?_, ⟨pf.name, pf.locs, app_fit pf.block ?_, pf.res⟩, ?_⟩
        · show (p.block.app (.cons (.lt x0 (.num 3)) .nil)).len ≠ p.block.len
          rw [Blk.len_app]
          show p.block.len + (0 + 1) ≠ _
          omega
        · unfold blF
          refine ⟨?_, by unfold blF; trivial⟩
          unfold stF
          exact ⟨pf.locs x0 (by rw [el]; exact List.mem_cons_self ..), by decide, by decide⟩
        · show (p.block.app (.cons (.lt x0 (.num 3)) .nil)).tot ≤ 700
          rw [app_tot, tot_cons, tot_nil]
          show p.block.tot + ((1 : Nat) + 0) ≤ 700
          omega
      · exact ⟨bcb, ⟨pf.name, pf.locs, fcb pf.block, pf.res⟩, by show cb.tot ≤ 700; omega⟩
      · exact ⟨.inl rfl, ⟨pf.name, pf.locs, pf.block, ⟨by decide +kernel, prf, by decide, by decide⟩⟩, pt⟩
    revert a7 oks
    generalize ([({ p with name := "zz" } : Pr), { p with size := p.size % 64 + 1 }] ++ [({ p with ans := p.ans % 64 + 1 } : Pr), { p with locs := p.locs ++ [("zz" : Str)] }] ++ [({ p with block := p.block.app (.cons (.lt x0 (.num 3)) .nil) } : Pr)] ++ [({ p with block := cb } : Pr), { p with res := .op "+" p.res (.num 1) }]) = qs
    intro a7 oks
    have l7 : ([V.ref t1, V.ref t2] ++ [V.ref t3, V.ref t4] ++ [V.ref t5] ++ [V.ref t6, V.ref t7]).length = 7 := rfl
    revert a7 l7
    generalize ([V.ref t1, V.ref t2] ++ [V.ref t3, V.ref t4] ++ [V.ref t5] ++ [V.ref t6, V.ref t7]) = os
    intro a7 l7
    have nF : R3 ≠ F := by
      obtain ⟨xs0, Fs0, a0, g0, l0⟩ := fn.ex
      exact (ne_of_none a0.l a7.f).symm
    have fn := fn.same a7.s
    have e7 := a7.l
    have d7 := a7.d
    refine ⟨_, rfl, R3, rfl, ⟨_, SqL.of e7⟩, ?_⟩
    revert fn e7 d7
    clear a7
    generalize upd _ R3 (.lst os) = H9
    intro fn e7 d7
    refine for_list (K := K) (a := R3) (xs := os) (fun i σ H' => ∃ y10, σ = [some (.ref ga), some (.ref F), some (.int (k : Int)), some (.str p.name), some (.int p.size), some (.int p.ans), some (.ref la), some (.ref ba), some vr, some (.ref R3), y10] ∧ Fnd K H H' F G (3 + 7 * k + i) ∧ H' R3 = some (.lst os) ∧ DpAll K H' os (qs.map Pr.d)) ⟨_, rfl, fn, e7, d7⟩ (fun i σ H' _ ⟨_, _, _, e, _⟩ => SqL.of e) ?_ ?_
    · rintro i x σ H1 hx ⟨y10, rfl, fn, e7, d7⟩
      have hi := (List.getElem?_eq_some_iff.mp hx).1
      have lq : qs.length = os.length := by rw [DpAll.len d7, List.length_map]
      obtain ⟨p', ep'⟩ : ∃ p', qs[i]? = some p' := ⟨qs[i]'(by omega), List.getElem?_eq_getElem _⟩
      obtain ⟨x', ex', dp'⟩ := DpAll.get d7 (show (qs.map Pr.d)[i]? = some p'.d by rw [List.getElem?_map, ep']; rfl)
      rw [hx] at ex'
      cases ex'
      have ok := oks p' (List.mem_of_getElem? ep')
      refine gn ?_
      obtain ⟨xs0, Fs0, a0, g0, l0⟩ := fn.ex
      refine ⟨_, rfl, .inl ⟨rfl, xs0, SqL.of a0.l⟩, ?_⟩
      refine ⟨_, rfl, _, rfl, ga, _, rfl, sqT_mono fn.s hg, fun c1 H3 m1 hc1 => ?_⟩
      have hc1 : SqT K H3 c1 [v0, v1, v2] := hc1
      have n3 := fn.s.trans m1
      refine ⟨_, rfl, ga, _, 3, _, rfl, rfl, sqT_mono n3 hg, atI_nat (j := 3) rfl, _, rfl, (k : Int), rfl, pa, ps, rfl, sqT_mono n3 hpa, fun c2 H4 m2 hc2 => ⟨_, rfl, big 1 (by decide), fun t ht => ?_⟩⟩
      rw [Gm.cut_take] at hc2
      have m3 := Gm.same_new ht (.tup [x])
      refine ⟨c2, t, _, _, rfl, rfl, sqT_mono m3 hc2, SqT.of upd_same, by rw [List.length_take]; exact big _ (by show min k ps.length + 1 ≤ _; omega), fun c3 H5 m4 hc3 => ?_⟩
      have n5 := n3.trans (m2.trans (m3.trans m4))
      have ek1 : V.int ((k : Int) + 1) = .int ((k + 1 : Nat) : Int) := by congr 1
      refine ⟨_, rfl, ga, _, 3, _, rfl, rfl, sqT_mono n5 hg, atI_nat (j := 3) rfl, _, rfl, (k : Int), 1, rfl, rfl, ((k + 1 : Nat) : Int), ek1, pa, ps, rfl, sqT_mono n5 hpa, fun c4 H6 m5 hc4 => ?_⟩
      rw [Gm.cut_drop] at hc4
      refine ⟨c3, c4, _, _, rfl, rfl, sqT_mono m5 hc3, hc4, big _ (by rw [List.length_append, List.length_take, List.length_drop]; show min k ps.length + 1 + _ ≤ _; omega), fun c5 H7 m6 hc5 => ⟨big 1 (by decide), fun t2 ht2 => ?_⟩⟩
      have m7 := Gm.same_new ht2 (.tup [V.ref c5])
      have m17 := m2.trans (m3.trans (m4.trans (m5.trans (m6.trans m7))))
      refine ⟨c1, t2, _, _, rfl, rfl, sqT_mono m17 hc1, SqT.of upd_same, by show 3 + 1 ≤ sizeLine; decide, fun c6 H8 m8 hc6 => ?_⟩
      have mm := m1.trans (m17.trans m8)
      have fn8 := fn.same mm
      have dps8 := dp_monoAll fn8.s _ _ dps
      have dc5 : Dp K H8 (.ref c5) (.tuple ((G.procs.take k ++ [p'] ++ G.procs.drop (k + 1)).map Pr.d)) := .tup (sqT_mono (m7.trans m8) hc5) (by
        rw [List.map_append, List.map_append, List.map_take, List.map_drop]
        exact DpAll.app (DpAll.app (DpAll.take k dps8) (.cons (dp_mono mm _ _ dp') .nil)) (DpAll.drop (k + 1) dps8))
      obtain ⟨xs9, e9, l9, fn9⟩ := fn8.put (by omega) (setP_dp fn8.s hc6 dc5) (go_proc gd ep ok.b ok.f ok.t)
      exact ⟨F, xs9, _, rfl, rfl, e9, l9, _, rfl, fn9, by rw [upd_ne nF]; exact mm _ _ e7, dp_tupsAll (Tups.lst e9) _ _ (nolAll_procs _) (dp_monoAll mm _ _ d7)⟩
    · rintro σ H1 ⟨y10, rfl, fn, e7, d7⟩
      exact ⟨_, _, _, _, _, _, _, _, _, rfl, fn.mono (by omega)⟩
  · rintro σ H1 ⟨y2, y3, y4, y5, y6, y7, y8, y9, y10, rfl, fn⟩
    obtain ⟨xs, Fs, a, g, l⟩ := fn.ex
    exact ⟨_, rfl, q (F) xs Fs H1 a.s a.f a.l a.d g (by omega)⟩
end
end Toy
set_option Elab.async false
set_option linter.all false
set_option maxRecDepth 100000
set_option maxHeartbeats 8000000
namespace Toy
open PySem L2 NdefX Gm
open Mine hiding same_new
open Pz (But)
def wn1 (s : Stm) : Stm := match s with
  | .after a => .after (a.app (.cons .bad .nil))
  | s => s
theorem wn_l : ∀ b : Blk, b.wn.l = b.l.map wn1
  | .nil => by unfold Blk.wn Blk.l; rfl
  | .cons s r => by
    have ih := wn_l r
    cases s <;> (unfold Blk.wn Blk.l; rw [ih]; rfl)
def spWn (K : PySem.W.Frag) : Sp := fun vs H Q _ => ∃ (v : V) (b : Blk), vs = [v] ∧ Dp K H v b.d ∧ b.tot ≤ 100 ∧ ∀ (u : V) (H' : Hp), Same H H' → Dp K H' u b.wn.d → Q u H'
section
variable {P : Program} {w : World} {K : PySem.W.Frag} {mg : Str → Option Value} {base : Heap} {file : Str}
theorem ok_wn (T : Txt K mg file) : FnOk P w K mg base CX0 1 T.a_law_within T.fd_law_within ["block"] (spWn K) := by
  refine T.F_law_within.ok sc_law_within (fun vs H Q E h => ?_) (fun cdv A outer s H vs Q E hr h => ?_)
  · obtain ⟨v, b, rfl, _⟩ := h
    rfl
  obtain ⟨v, b, rfl, dv, ht, q⟩ := h
  refine ⟨_, (pss_cons (ps_set (i := 1) sc_law_within.nd rfl (Or.inl rfl) (pe_lst pa_nil))
    (pss_cons (ps_for PassesOwn.never rfl (pi_tup (pv 0)) (pg_name (i := 2) sc_law_within.nd rfl (Or.inl rfl))
      (pss_cons (ps_if (pt_cmpR op_eq (pe_ix ix_tup (pv 2) pe_int (fun _ _ => rfl)) pe_str (nomark _))
      (pss_one (ps_set (i := 2) sc_law_within.nd rfl (Or.inl rfl) (pe_tup (pa_cons pe_str (pa_cons (pe_op (CatB.op_catB K rfl) (pe_ix ix_tup (pv 2) pe_int (fun _ _ => rfl)) (pe_tup (pa_cons (pe_tup (pa_cons pe_str pa_nil)) pa_nil))) pa_nil)))))
      pss_nil)
    (pss_one (ps_expr (pe_bm PySem.F.plainAttrs_list PySem.F.slot_list_append PySem.F.type_list_append mt_append (pv 1) (pa_cons (pv 2) pa_nil))))))
    (pss_one (ps_ret (pe_callTy call_tuple_of (by rfl) T.z_tuple (by decide +kernel) (pa_cons (pv 1) pa_nil)))))), ?_⟩
  obtain ⟨a, xs, rfl, ha, dxs⟩ := dp_inv dv
  rw [Blk.ds_l] at dxs
  have lx : xs.length = b.l.length := (DpAll.len dxs).trans (List.length_map _)
  have lb := blk_len_tot b
  refine ⟨big 0 (by decide), fun F hF => ?_⟩
  have m0 := Gm.same_new hF (.lst [])
  refine ⟨_, rfl, a, rfl, ⟨_, sqT_mono m0 ha⟩, ?_⟩
  refine for_tup (K := K) (a := a) (xs := xs) (fun i σ H' => ∃ (vs : List V) (y : Option V), σ = [some (.ref a), some (.ref F), y] ∧ Acc K H H' F vs (((b.l.take i).map wn1).map Stm.d)) ⟨[], none, rfl, Acc.start hF⟩ (fun i σ H' _ ⟨_, _, _, ac⟩ => sqT_mono ac.s ha) ?_ ?_
  · rintro i x σ H1 hx ⟨vs, y, rfl, ac⟩
    have hi := (List.getElem?_eq_some_iff.mp hx).1
    obtain ⟨s, es⟩ : ∃ s, b.l[i]? = some s := ⟨b.l[i]'(lx ▸ hi), List.getElem?_eq_getElem _⟩
    obtain ⟨x', ex, ds⟩ := DpAll.get dxs (show (b.l.map Stm.d)[i]? = some s.d by rw [List.getElem?_map, es]; rfl)
    rw [hx] at ex
    cases ex
    have ts := blk_tot_at (List.mem_of_getElem? es)
    have ds1 := dp_mono ac.s _ _ ds
    have lv : vs.length ≤ 100 := by
      have := ac.len
      rw [List.length_map, List.length_map, List.length_take] at this
      omega
    refine gn ?_
    try dsimp only
    refine seq_k (fun σ H' => ∃ u, σ = [some (.ref a), some (.ref F), some u] ∧ Acc K H H' F vs (((b.l.take i).map wn1).map Stm.d) ∧ Dp K H' u (wn1 s).d) ?_ (fun k1 => ?_)
    rotate_left
    · obtain ⟨sa, rr, rfl, hsa, dr⟩ := stm_inv ds1
      refine ⟨_, rfl, sa, _, 0, _, rfl, rfl, hsa, atI_nat (j := 0) rfl, rfl, _, rfl, ite2 (fun c => ?_) (fun c => ?_)⟩
      · have c : s.kind = "after" := V.str.inj (of_decide_eq_true c)
        obtain ⟨bb, rfl⟩ := after_is c
        obtain ⟨v1, _, rfl, d1, dr⟩ := dps_cons dr
        have e0 := dps_nil dr
        subst e0
        obtain ⟨ba, bs, rfl, hba, dbs⟩ := dp_inv d1
        rw [tot_aft] at ts
        have lbs : bs.length ≤ 100 := by
          have h1 := DpAll.len dbs
          rw [Blk.ds_l, List.length_map] at h1
          have := blk_len_tot bb
          omega
        refine ⟨_, rfl, sa, _, 1, _, rfl, rfl, hsa, atI_nat (j := 1) rfl, big 1 (by decide), fun t1 h1 => ⟨big 1 (by decide), fun t2 h2 => ?_⟩⟩
        have m1 := Gm.same_new h1 (.tup [V.str "bad"])
        have m2 := Gm.same_new h2 (.tup [V.ref t1])
        refine ⟨ba, t2, _, _, rfl, rfl, sqT_mono (m1.trans m2) hba, SqT.of upd_same, by show bs.length + 1 ≤ sizeLine; exact big _ (by omega), fun c1 H4 m3 hc1 => ⟨big 2 (by decide), fun t3 h3 => ?_⟩⟩
        have m4 := Gm.same_new h3 (.tup [V.str "after", V.ref c1])
        refine gn ?_
        refine k1 _ _ ⟨.ref t3, rfl, ac.grow (m1.trans (m2.trans (m3.trans m4))), ?_⟩
        have dbad : Dp K (upd H4 t3 (.tup [V.str "after", V.ref c1])) (.ref t1) Stm.bad.d := dp_mono (m2.trans (m3.trans m4)) _ _ (by unfold Stm.d; exact .tup (SqT.of upd_same) (.cons (.str _) .nil))
        show Dp K _ (.ref t3) (Stm.after (bb.app (.cons .bad .nil))).d
        unfold Stm.d
        rw [Blk.ds_app]
        exact .tup (SqT.of upd_same) (.cons (.str _) (.cons (.tup (sqT_mono m4 hc1) (DpAll.app (dp_monoAll (m1.trans (m2.trans (m3.trans m4))) _ _ dbs) (.cons dbad .nil))) .nil))
      · have e : wn1 s = s := by
          cases s <;> first | rfl | exact absurd rfl (fun z => c (decide_eq_true z))
        exact k1 _ _ ⟨_, rfl, ac, by rw [e]; exact ds1⟩
    rintro σ H2 ⟨u, rfl, ac, du⟩
    refine ⟨_, rfl, .inl ⟨rfl, vs, SqL.of ac.l⟩, _, rfl, F, vs, _, rfl, rfl, ac.l, big' _ (by omega), vs ++ [u], _, rfl, ?_⟩
    rw [take_more es, List.map_append, List.map_append]
    exact ac.add du (Stm.nol _)
  · rintro σ H1 ⟨vs, y, rfl, ac⟩
    rw [lx, List.take_length] at ac
    refine ⟨_, rfl, F, vs, rfl, .inl ⟨SqL.of ac.l, fun tp htp => ?_⟩⟩
    refine q _ _ (ac.s.trans (Gm.same_new htp _)) ?_
    show Dp K _ (.ref tp) (.tuple b.wn.ds)
    rw [Blk.ds_l, wn_l]
    exact dp_tup htp ac.d
end
end Toy
set_option Elab.async false
set_option linter.all false
set_option maxRecDepth 100000
set_option maxHeartbeats 8000000
namespace Toy
open PySem L2 NdefX Gm
open Mine hiding same_new
open Pz (But)
def spS0 : Sp := fun vs H Q _ => (∃ i j : Bool, vs = [.bl i, .bl j] ∧ Q (.bl (decide (i = j))) H) ∨ (∃ a b : Str, vs = [.str a, .str b] ∧ Q (.bl (decide (a = b))) H)
def spSm : Sp := fun vs H Q _ => ∃ (p q : Addr) (bs : List Bool), vs = [.ref p, .ref q] ∧ H p = some (.lst (bs.map V.bl)) ∧ H q = some (.lst (bs.map V.bl)) ∧ bs.length ≤ 100 ∧ Q (.bl true) H
theorem isi_rd {K : PySem.W.Frag} {σ : L2.St} {H : Hp} {i : Nat} {n t : String} {x : V} {b : Bool} {Q : Bool → Hp → Prop} (e : σ[i]? = some (some x)) (ty : TyX K H x (.type t)) (k : kitB t n = some b) (q : Q b H) :
    tB (tCB (rIsi K) (tCons (tVar i) (tCons (tC (.ty n)) tNil))) σ H Q := ⟨x, e, x, .ty n, .type t, .type n, b, rfl, .ty n, ty, kit_ty k, b, rfl, q⟩
theorem isi_rv {K : PySem.W.Frag} {σ : L2.St} {H : Hp} {i : Nat} {n t : String} {x : V} {b : Bool} {Q : VK} (e : σ[i]? = some (some x)) (ty : TyX K H x (.type t)) (k : kitB t n = some b) (q : Q (.bl b) H) :
    tCB (rIsi K) (tCons (tVar i) (tCons (tC (.ty n)) tNil)) σ H Q := ⟨x, e, x, .ty n, .type t, .type n, b, rfl, .ty n, ty, kit_ty k, q⟩
section
variable {P : Program} {w : World} {K : PySem.W.Frag} {mg : Str → Option Value} {base : Heap} {file : Str}
theorem ok_s0 (T : Txt K mg file) (sp0 : Sp) (G_law_same : FnOk P w K mg base CX0 1 T.a_law_same T.fd_law_same ["actual", "due"] sp0) : FnOk P w K mg base CX0 2 T.a_law_same T.fd_law_same ["actual", "due"] spS0 := by
  refine T.F_law_same.ok sc_law_same (fun vs H Q E h => ?_) (fun cdv A outer s H vs Q E hr h => ?_)
  · rcases h with ⟨i, j, rfl, _⟩ | ⟨i, j, rfl, _⟩ <;> rfl
  refine ⟨_, (pss_cons (ps_if (PW.pt (pw_or (pt_val (pe_callB call_isi (by rfl) T.z_isinstance (by decide +kernel) (pa_cons (pv 1) (pa_cons (pe_bltn (v := .ty "tuple") (by rfl) T.z_tuple (by decide +kernel) rfl) pa_nil)))) (pw_or1 (pt_val (pe_callB call_isi (by rfl) T.z_isinstance (by decide +kernel) (pa_cons (pv 1) (pa_cons (pe_bltn (v := .ty "list") (by rfl) T.z_list (by decide +kernel) rfl) pa_nil)))))))
      (pss_cons (ps_if (PW.pt (pw_or (pt_cmpR op_ne (pe_callB call_isi (by rfl) T.z_isinstance (by decide +kernel) (pa_cons (pv 1) (pa_cons (pe_bltn (v := .ty "tuple") (by rfl) T.z_tuple (by decide +kernel) rfl) pa_nil))) (pe_callB call_isi (by rfl) T.z_isinstance (by decide +kernel) (pa_cons (pv 0) (pa_cons (pe_bltn (v := .ty "tuple") (by rfl) T.z_tuple (by decide +kernel) rfl) pa_nil))) (nomark _)) (pw_or1 (pt_cmpR op_ne (pe_callB call_isi (by rfl) T.z_isinstance (by decide +kernel) (pa_cons (pv 1) (pa_cons (pe_bltn (v := .ty "list") (by rfl) T.z_list (by decide +kernel) rfl) pa_nil))) (pe_callB call_isi (by rfl) T.z_isinstance (by decide +kernel) (pa_cons (pv 0) (pa_cons (pe_bltn (v := .ty "list") (by rfl) T.z_list (by decide +kernel) rfl) pa_nil))) (nomark _)))))
      (pss_one (ps_ret pe_bl))
      pss_nil)
    (pss_cons (ps_if (pt_cmpR op_ne (pe_callB call_len_seq (by rfl) T.z_len (by decide +kernel) (pa_cons (pv 0) pa_nil)) (pe_callB call_len_seq (by rfl) T.z_len (by decide +kernel) (pa_cons (pv 1) pa_nil)) (nomark _))
      (pss_one (ps_ret pe_bl))
      pss_nil)
    (pss_cons (ps_for PassesOwn.never rfl (pi_range1 (by rfl) T.z_range (pa_cons (pe_callB call_len_seq (by rfl) T.z_len (by decide +kernel) (pa_cons (pv 1) pa_nil)) pa_nil)) (pg_name (i := 2) sc_law_same.nd rfl (Or.inl rfl))
      (pss_one (ps_if (pt_not (pt_val (pe_call G_law_same (hr.mono (by omega)) rfl T.g_law_same T.k_law_same T.b_law_same .nil pass0 (pa_cons (pe_ix ix_list (pv 0) (pv 2) (fun _ _ => rfl)) (pa_cons (pe_ix ix_list (pv 1) (pv 2) (fun _ _ => rfl)) pa_nil)))))
      (pss_one (ps_ret pe_bl))
      pss_nil)))
    (pss_one (ps_ret pe_bl)))))
      pss_nil)
    (pss_cons (ps_if (PW.pt (pw_or (pt_cmpR op_isN (pv 1) pe_non (nomark _)) (pw_or1 (pt_val (pe_callB call_isi (by rfl) T.z_isinstance (by decide +kernel) (pa_cons (pv 1) (pa_cons (pe_bltn (v := .ty "bool") (by rfl) T.z_bool (by decide +kernel) rfl) pa_nil)))))))
      (pss_one (ps_ret (pe_and (pe_cmpR op_eq (pe_cmpR op_isN (pv 0) pe_non (nomark _)) (pe_cmpR op_isN (pv 1) pe_non (nomark _)) (nomark _)) (pe_and (pe_or (pe_cmpR op_isN (pv 1) pe_non (nomark _)) (pe_one (pe_callB call_isi (by rfl) T.z_isinstance (by decide +kernel) (pa_cons (pv 0) (pa_cons (pe_bltn (v := .ty "bool") (by rfl) T.z_bool (by decide +kernel) rfl) pa_nil))))) (pe_one (pe_cmpR op_eq (pv 0) (pv 1) (nomark _)))))))
      pss_nil)
    (pss_cons (ps_if (pt_val (pe_callB call_isi (by rfl) T.z_isinstance (by decide +kernel) (pa_cons (pv 1) (pa_cons (pe_bltn (v := .ty "int") (by rfl) T.z_int (by decide +kernel) rfl) pa_nil))))
      (pss_one (ps_ret (pe_and (pe_callB call_isi (by rfl) T.z_isinstance (by decide +kernel) (pa_cons (pv 0) (pa_cons (pe_bltn (v := .ty "int") (by rfl) T.z_int (by decide +kernel) rfl) pa_nil))) (pe_and (pe_not (pe_callB call_isi (by rfl) T.z_isinstance (by decide +kernel) (pa_cons (pv 0) (pa_cons (pe_bltn (v := .ty "bool") (by rfl) T.z_bool (by decide +kernel) rfl) pa_nil)))) (pe_one (pe_cmpR op_eq (pv 0) (pv 1) (nomark _)))))))
      pss_nil)
    (pss_one (ps_ret (pe_and (pe_callB call_isi (by rfl) T.z_isinstance (by decide +kernel) (pa_cons (pv 0) (pa_cons (pe_bltn (v := .ty "str") (by rfl) T.z_str (by decide +kernel) rfl) pa_nil))) (pe_one (pe_cmpR op_eq (pv 0) (pv 1) (nomark _))))))))), ?_⟩
  rcases h with ⟨i, j, rfl, q⟩ | ⟨i, j, rfl, q⟩
  · have j' : TyX K H (.bl j) (.type "bool") := .base (.bl j)
    have i' : TyX K H (.bl i) (.type "bool") := .base (.bl i)
    refine isi_rd rfl j' (by decide +kernel) (iteF (isi_rd rfl j' (by decide +kernel) (iteF ?_)))
    refine ⟨_, rfl, rfl, _, rfl, ite_no (by simp) (isi_rd rfl j' (by decide +kernel) (iteT ?_))⟩
    refine ⟨_, rfl, rfl, _, rfl, rfl, rfl, _, rfl, iteT2 (by simp) ?_⟩
    refine ⟨_, rfl, rfl, _, rfl, iteF2 (by simp) (isi_rv (b := true) rfl i' (by decide +kernel) ⟨_, rfl, iteT ⟨_, rfl, _, rfl, rfl, ?_⟩⟩)⟩
    rw [show decide (V.bl i = V.bl j) = decide (i = j) by simp]
    exact q
  · have j' : TyX K H (.str j) (.type "str") := .base (.str j)
    have i' : TyX K H (.str i) (.type "str") := .base (.str i)
    refine isi_rd rfl j' (by decide +kernel) (iteF (isi_rd rfl j' (by decide +kernel) (iteF ?_)))
    refine ⟨_, rfl, rfl, _, rfl, ite_no (by simp) (isi_rd rfl j' (by decide +kernel) (iteF ?_))⟩
    refine isi_rd rfl j' (by decide +kernel) (iteF ?_)
    refine isi_rv (b := true) rfl i' (by decide +kernel) ⟨_, rfl, iteT ⟨_, rfl, _, rfl, rfl, ?_⟩⟩
    rw [show decide (V.str i = V.str j) = decide (i = j) by simp]
    exact q
theorem ok_s00 (T : Txt K mg file) : FnOk P w K mg base CX0 2 T.a_law_same T.fd_law_same ["actual", "due"] spS0 := ok_s0 T (fun _ _ _ _ => False) ⟨fun _ _ _ _ h => h.elim, fun _ _ _ _ _ _ _ _ _ _ _ _ _ h => h.elim⟩
theorem ok_sm (T : Txt K mg file) : FnOk P w K mg base CX0 3 T.a_law_same T.fd_law_same ["actual", "due"] spSm := by
  have G_law_same : FnOk P w K mg base CX0 2 T.a_law_same T.fd_law_same ["actual", "due"] spS0 := ok_s00 T
  refine T.F_law_same.ok sc_law_same (fun vs H Q E h => ?_) (fun cdv A outer s H vs Q E hr h => ?_)
  · obtain ⟨p, q, bs, rfl, _⟩ := h
    rfl
  obtain ⟨p, q, bs, rfl, e1, e2, hl, qq⟩ := h
  refine ⟨_, (pss_cons (ps_if (PW.pt (pw_or (pt_val (pe_callB call_isi (by rfl) T.z_isinstance (by decide +kernel) (pa_cons (pv 1) (pa_cons (pe_bltn (v := .ty "tuple") (by rfl) T.z_tuple (by decide +kernel) rfl) pa_nil)))) (pw_or1 (pt_val (pe_callB call_isi (by rfl) T.z_isinstance (by decide +kernel) (pa_cons (pv 1) (pa_cons (pe_bltn (v := .ty "list") (by rfl) T.z_list (by decide +kernel) rfl) pa_nil)))))))
      (pss_cons (ps_if (PW.pt (pw_or (pt_cmpR op_ne (pe_callB call_isi (by rfl) T.z_isinstance (by decide +kernel) (pa_cons (pv 1) (pa_cons (pe_bltn (v := .ty "tuple") (by rfl) T.z_tuple (by decide +kernel) rfl) pa_nil))) (pe_callB call_isi (by rfl) T.z_isinstance (by decide +kernel) (pa_cons (pv 0) (pa_cons (pe_bltn (v := .ty "tuple") (by rfl) T.z_tuple (by decide +kernel) rfl) pa_nil))) (nomark _)) (pw_or1 (pt_cmpR op_ne (pe_callB call_isi (by rfl) T.z_isinstance (by decide +kernel) (pa_cons (pv 1) (pa_cons (pe_bltn (v := .ty "list") (by rfl) T.z_list (by decide +kernel) rfl) pa_nil))) (pe_callB call_isi (by rfl) T.z_isinstance (by decide +kernel) (pa_cons (pv 0) (pa_cons (pe_bltn (v := .ty "list") (by rfl) T.z_list (by decide +kernel) rfl) pa_nil))) (nomark _)))))
      (pss_one (ps_ret pe_bl))
      pss_nil)
    (pss_cons (ps_if (pt_cmpR op_ne (pe_callB call_len_seq (by rfl) T.z_len (by decide +kernel) (pa_cons (pv 0) pa_nil)) (pe_callB call_len_seq (by rfl) T.z_len (by decide +kernel) (pa_cons (pv 1) pa_nil)) (nomark _))
      (pss_one (ps_ret pe_bl))
      pss_nil)
    (pss_cons (ps_for PassesOwn.never rfl (pi_range1 (by rfl) T.z_range (pa_cons (pe_callB call_len_seq (by rfl) T.z_len (by decide +kernel) (pa_cons (pv 1) pa_nil)) pa_nil)) (pg_name (i := 2) sc_law_same.nd rfl (Or.inl rfl))
      (pss_one (ps_if (pt_not (pt_val (pe_call G_law_same (hr.mono (by omega)) rfl T.g_law_same T.k_law_same T.b_law_same .nil pass0 (pa_cons (pe_ix ix_list (pv 0) (pv 2) (fun _ _ => rfl)) (pa_cons (pe_ix ix_list (pv 1) (pv 2) (fun _ _ => rfl)) pa_nil)))))
      (pss_one (ps_ret pe_bl))
      pss_nil)))
    (pss_one (ps_ret pe_bl)))))
      pss_nil)
    (pss_cons (ps_if (PW.pt (pw_or (pt_cmpR op_isN (pv 1) pe_non (nomark _)) (pw_or1 (pt_val (pe_callB call_isi (by rfl) T.z_isinstance (by decide +kernel) (pa_cons (pv 1) (pa_cons (pe_bltn (v := .ty "bool") (by rfl) T.z_bool (by decide +kernel) rfl) pa_nil)))))))
      (pss_one (ps_ret (pe_and (pe_cmpR op_eq (pe_cmpR op_isN (pv 0) pe_non (nomark _)) (pe_cmpR op_isN (pv 1) pe_non (nomark _)) (nomark _)) (pe_and (pe_or (pe_cmpR op_isN (pv 1) pe_non (nomark _)) (pe_one (pe_callB call_isi (by rfl) T.z_isinstance (by decide +kernel) (pa_cons (pv 0) (pa_cons (pe_bltn (v := .ty "bool") (by rfl) T.z_bool (by decide +kernel) rfl) pa_nil))))) (pe_one (pe_cmpR op_eq (pv 0) (pv 1) (nomark _)))))))
      pss_nil)
    (pss_cons (ps_if (pt_val (pe_callB call_isi (by rfl) T.z_isinstance (by decide +kernel) (pa_cons (pv 1) (pa_cons (pe_bltn (v := .ty "int") (by rfl) T.z_int (by decide +kernel) rfl) pa_nil))))
      (pss_one (ps_ret (pe_and (pe_callB call_isi (by rfl) T.z_isinstance (by decide +kernel) (pa_cons (pv 0) (pa_cons (pe_bltn (v := .ty "int") (by rfl) T.z_int (by decide +kernel) rfl) pa_nil))) (pe_and (pe_not (pe_callB call_isi (by rfl) T.z_isinstance (by decide +kernel) (pa_cons (pv 0) (pa_cons (pe_bltn (v := .ty "bool") (by rfl) T.z_bool (by decide +kernel) rfl) pa_nil)))) (pe_one (pe_cmpR op_eq (pv 0) (pv 1) (nomark _)))))))
      pss_nil)
    (pss_one (ps_ret (pe_and (pe_callB call_isi (by rfl) T.z_isinstance (by decide +kernel) (pa_cons (pv 0) (pa_cons (pe_bltn (v := .ty "str") (by rfl) T.z_str (by decide +kernel) rfl) pa_nil))) (pe_one (pe_cmpR op_eq (pv 0) (pv 1) (nomark _))))))))), ?_⟩
  have j' : TyX K H (.ref q) (.type "list") := .base (.lst e2)
  have i' : TyX K H (.ref p) (.type "list") := .base (.lst e1)
  refine isi_rd rfl j' (by decide +kernel) (iteF (isi_rd rfl j' (by decide +kernel) (iteT ?_)))
  refine isi_rv (b := false) rfl j' (by decide +kernel) (isi_rv (b := false) rfl i' (by decide +kernel) ⟨rfl, _, rfl, iteF2 (by simp) ?_⟩)
  refine isi_rv (b := true) rfl j' (by decide +kernel) (isi_rv (b := true) rfl i' (by decide +kernel) ⟨rfl, _, rfl, iteF2 (by simp) ?_⟩)
  refine ⟨_, rfl, p, _, rfl, .inl (SqL.of e1), _, rfl, q, _, rfl, .inl (SqL.of e2), rfl, _, rfl, iteF2 (by simp) ?_⟩
  refine ⟨_, rfl, q, bs.map V.bl, rfl, .inl (SqL.of e2), _, rfl, by rw [List.length_map]; omega, by rw [List.length_map]; omega, ?_⟩
  rw [show (((bs.map V.bl).length : Nat) : Int).toNat = bs.length by rw [List.length_map]; omega]
  refine for_range (lo := 0) (n := bs.length) (fun k σ H' => ∃ y, σ = [some (.ref p), some (.ref q), y] ∧ H' = H) ⟨_, rfl, rfl⟩ ?_ ?_
  · rintro k σ H' hk ⟨y, rfl, rfl⟩
    refine gn ?_
    have ea : atI (bs.map V.bl) (0 + (k : Int)) = some (.bl bs[k]) := at_of (j := k) (by omega) (by rw [List.getElem?_map, List.getElem?_eq_getElem hk] <;> rfl)
    refine ⟨_, rfl, _, rfl, p, _, _, _, rfl, rfl, SqL.of e1, ea, _, rfl, _, rfl, q, _, _, _, rfl, rfl, SqL.of e2, ea, .inl ⟨bs[k], bs[k], rfl, _, rfl, iteF2 (by simp) ⟨_, rfl, rfl⟩⟩⟩
  · rintro σ H' ⟨y, rfl, rfl⟩
    exact qq
end
end Toy
set_option Elab.async false
set_option linter.all false
set_option maxRecDepth 100000
set_option maxHeartbeats 4000000
namespace Toy
open PySem L2 NdefX Gm
open Mine hiding same_new
mutual
theorem sCnt_tot : ∀ s : Stm, s.tot = sCnt s
  | .ite e a b => by unfold sCnt; rw [tot_ite, bCnt_tot a, bCnt_tot b]; omega
  | .after a => by unfold sCnt; rw [tot_aft, bCnt_tot a]
  | .set y e => by unfold sCnt Stm.tot; rfl
  | .lt y e => by unfold sCnt Stm.tot; rfl
  | .draw y e => by unfold sCnt Stm.tot; rfl
  | .put y e f => by unfold sCnt Stm.tot; rfl
  | .lot y o e => by unfold sCnt Stm.tot; rfl
  | .ask y o e => by unfold sCnt Stm.tot; rfl
  | .bad => by unfold sCnt Stm.tot; rfl
theorem bCnt_tot : ∀ b : Blk, b.tot = bCnt b
  | .nil => by unfold bCnt; rw [tot_nil]
  | .cons s r => by unfold bCnt; rw [tot_cons, sCnt_tot s, bCnt_tot r]
end
theorem nm_all : (∀ x ∈ xyz, nmB x = true ∧ x ≠ ("zz" : Str)) ∧ (∀ x ∈ tss, nmB x = true ∧ x ≠ ("zz" : Str)) ∧ (∀ x ∈ oks, nmB x = true ∧ x ≠ ("zz" : Str)) ∧ (∀ x ∈ prs, nmB x = true ∧ x ≠ ("zz" : Str)) ∧ ∀ x ∈ gab, nmB x = true ∧ x ≠ ("zz" : Str) := by decide +kernel
theorem nm_in {α : Type} {f : α → Str} {xs : List α} {ys : List Str} {n : Nat} (e : xs.map f = ys.take n) (h : ∀ x ∈ ys, nmB x = true ∧ x ≠ ("zz" : Str)) : ∀ t ∈ xs, nmB (f t) = true ∧ f t ≠ ("zz" : Str) := fun t ht => by
  have m : f t ∈ xs.map f := List.mem_map.mpr ⟨t, ht, rfl⟩
  rw [e] at m
  exact h _ (List.mem_of_mem_take m)
theorem len_in {α : Type} {f : α → Str} {xs : List α} {ys : List Str} {n k : Nat} (e : xs.map f = ys.take n) (h : ys.length ≤ k) : xs.length ≤ k := by
  have := congrArg List.length e
  rw [List.length_map, List.length_take] at this
  omega
theorem GdU.ofW {g : Ga} (h : GaW false g) : GdU g := by
  obtain ⟨nv, _, ev⟩ := h.vars
  obtain ⟨nt, _, et⟩ := h.tabs
  obtain ⟨no, _, eo⟩ := h.lots
  obtain ⟨np, p1, p2, ep⟩ := h.procs
  have N := nm_all
  have nv' := nm_in ev N.1
  have nt' := nm_in et N.2.1
  have no' := nm_in eo N.2.2.1
  refine ⟨nv', nt', no', fun t ht => ?_, h.tab, fun t ht => ?_, ⟨len_in ev (by decide), Nat.le_trans (len_in et (k := 2) (by decide)) (by decide), Nat.le_trans (len_in eo (k := 2) (by decide)) (by decide)⟩, ?_, fun p hp => ?_⟩
  · have := h.var t ht
    omega
  · have := h.lot t ht
    omega
  · have l := congrArg List.length ep
    rw [List.length_map, List.length_take, show prs.length = 2 from rfl] at l
    rcases hg : g.procs with _ | ⟨p, _ | ⟨q, _ | ⟨r, t⟩⟩⟩
    · rw [hg] at l
      simp at l
      omega
    · exact .inl ⟨p, rfl⟩
    · right
      refine ⟨p, q, rfl, ?_⟩
      have hn : np = 2 := by
        rw [hg] at l
        simp at l
        omega
      subst hn
      rw [hg] at ep
      have ep : [p.name, q.name] = (["p", "r"] : List Str) := ep
      injection ep with e1 e2
      injection e2 with e2 _
      rw [e1, e2]
      decide +kernel
    · rw [hg] at l
      simp at l
      omega
  · have o := h.proc p hp
    have n1 := nm_in ep N.2.2.2.1 p hp
    obtain ⟨m, m2, m6, el⟩ := o.locs
    have nl : ∀ x ∈ p.locs, nmB x = true ∧ x ≠ ("zz" : Str) := fun x hx => by
      rw [el] at hx
      exact N.2.2.2.2 x (List.mem_of_mem_take hx)
    have sc : ScN (scOf g.vars g.tabs g.lots p.locs) := by
      refine ⟨fun x hx => (nl x hx).1, fun x hx => ?_, fun x hx => ?_, fun x hx => ?_, fun x hx => nomatch hx⟩
      · obtain ⟨t, ht, rfl⟩ := List.mem_map.mp hx
        exact (nv' t ht).1
      · obtain ⟨t, ht, rfl⟩ := List.mem_map.mp hx
        exact (nt' t ht).1
      · obtain ⟨t, ht, rfl⟩ := List.mem_map.mp hx
        exact (no' t ht).1
    have cnt := o.cnt
    rw [← bCnt_tot] at cnt
    refine ⟨n1.1, n1.2, o.size, ⟨by have := o.ans; omega, o.ans.2⟩, ⟨nl, ?_, ?_⟩, blF.mono (k := 3) (j := 6) (by decide) (blF.ofOk sc o.block) (by decide), by omega, (exF.ofOk sc o.res).mono (by decide)⟩
    · rw [el]
      have hm : m = 2 ∨ m = 3 ∨ m = 4 ∨ m = 5 ∨ m = 6 := by omega
      rcases hm with rfl | rfl | rfl | rfl | rfl <;> decide +kernel
    · rw [el, List.length_take]
      show min m 6 ≤ 6
      omega
/-- an after in front of each block -/
def afS : Stm := .after (.cons (.lt "a" (.num 1)) .nil)
def Pr.af (p : Pr) : Pr := { p with block := .cons afS p.block }
def Ga.af (G : Ga) : Ga := G.setP (G.procs.map Pr.af)
theorem GaW.tot {g : Ga} (h : GaW false g) : ∀ p ∈ g.procs, p.block.tot ≤ 16 := fun p hp => by
  have := (h.proc p hp).cnt
  rw [bCnt_tot]
  exact this
theorem GdU.af {g : Ga} (h : GdU g) (ht : ∀ p ∈ g.procs, p.block.tot ≤ 16) : GdU (Ga.af g) := by
  refine ⟨h.vn, h.tn, h.on, h.vr, h.tr, h.or, h.len, ?_, fun p hp => ?_⟩
  · rcases h.pn with ⟨p, e⟩ | ⟨p, q, e, n⟩
    · exact .inl ⟨Pr.af p, by show g.procs.map Pr.af = _; rw [e]; rfl⟩
    · exact .inr ⟨Pr.af p, Pr.af q, by show g.procs.map Pr.af = _; rw [e]; rfl, n⟩
  · obtain ⟨q, hq, rfl⟩ := List.mem_map.mp (show p ∈ g.procs.map Pr.af from hp)
    obtain ⟨a, b, c, d, e, f, t, r⟩ := h.pr q hq
    have t' := ht q hq
    refine ⟨a, b, c, d, e, ?_, ?_, r⟩
    · show blF 6 6 (.cons afS q.block)
      unfold blF
      refine ⟨?_, f⟩
      unfold afS stF
      refine ⟨?_, by show 0 + 1 ≤ _; omega⟩
      unfold blF
      refine ⟨?_, by unfold blF; trivial⟩
      unfold stF
      exact ⟨by decide +kernel, by decide, by decide⟩
    · show (Blk.cons afS q.block).tot ≤ 30
      rw [tot_cons]
      unfold afS
      rw [tot_aft, tot_cons, tot_nil]
      show 1 + ((1 : Nat) + 0) + _ ≤ 30
      omega
end Toy
set_option Elab.async false
set_option linter.all false
set_option maxRecDepth 100000
set_option maxHeartbeats 2000000
/-! o.m(..) within a try's body: the end depends on the locals. -/
namespace MethT
open PySem PySem.W PySem.Calls PyProof.Rows L2
def tMethT (C : Addr) (m : Str) (sp : Sp) (E : L2.St → XK) (ta : TE) (t : TA) : TE := fun σ H Q => ta σ H fun x H1 => ∃ a dx fs, x = .ref a ∧ H1 a = some (.ins C dx fs) ∧ fs.lookup m = none ∧ t σ H1 fun vs H2 => sp (x :: vs) H2 Q (E σ)
variable {X : Cx} {CX : CXT} {k : Nat} {f C : Addr} {fd : FuncData} {ps : List Str} {sp : Sp} {E : L2.St → XK} {m : Str} {pos apos : Pos} {e o : Expr} {es : List Expr} {ta : TE} {t : TA}
theorem pe_methT {pl : Sem Bool} (he : PE X o ta) (c : Cls X.K C) (hm : Meth X.K C m f) (F : FnOk X.prog X.w X.K X.mg X.base CX k f fd ps sp) (hr : Room k X.A) (hb : Binds X.K fd ps []) (hx : ∀ σ, PassesAt CX X σ (E σ)) (ha : PA X (e :: es) t)
    (hst : starEach (e :: es) X.env = (false, eval e X.env) :: starEach es X.env := by rfl) (hpl : (backTo pos (starEach es X.env)).any (·.1) = false := by rfl)
    (ht : eval (.Call (.Attribute o m apos) (e :: es) [] pos) X.env = (do
      let ov ← eval o X.env
      standAt apos.atName
      let (f, first) ← holding [ov] (getMethod ov m pl)
      callWith pos f first (backTo pos (starEach (e :: es) X.env)) (backToKw pos (keywordEach [] X.env))) := by rfl) :
    PE X (.Call (.Attribute o m apos) (e :: es) [] pos) (tMethT C m sp E ta t) := by
  refine ⟨fun pins s σ H Q I h => ?_⟩
  refine PySem.W.methodCall_KW (pl := pl) (thn (he.run pins s σ H _ I h) fun u s1 ⟨x, H1, I1, rx, a, dx, fs, ex, ea, l, q⟩ => ?_) ht
  subst ex
  obtain rfl : u = Value.ref a := rx
  refine getmeth_ok I1 ea c hm l ?_
  refine PySem.W.callWith_K (first := [.ref a]) (h₀ := X.base) I.ok.mod.kin hm.kp (thn (ha.run pos pins s1 σ H1 _ I1 q) fun us s2 ⟨vs, H2, I2, r, q2⟩ => ⟨I2.kIn, ?_⟩) hst hpl
  exact run_fnS (us := .ref a :: us) (vs := .ref a :: vs) F hr hb (hx σ) I2 (.cons rfl r) q2
end MethT
set_option Elab.async false
set_option linter.all false
set_option maxRecDepth 100000
set_option maxHeartbeats 4000000
/-! == of two instances of one class with an own __eq__, where something is pinned (an except suite). -/
namespace AnyF
open PySem PySem.Spec PyProof.Rows L2 L2H
variable {X : Cx} {k : Nat} {f C : Addr} {fd : FuncData} {ps : List Str} {sp : Sp}
theorem run_fnA {pins : List (Addr × Obj)} {σ : L2.St} {H : Hp} {s : Shared} {Q : VK} {us : List Value} {vs : List V} (F : FnA X.prog X.w X.K X.mg X.base k f fd ps sp) (room : RoomH k X.A) (pinned : ∃ p, p ∈ X.pn) (bs : Binds X.K fd ps [])
    (J : Inv X pins σ H s) (r : Vals vs us) (z : sp vs H Q E0) : wpAny (model X.prog X.w) X.A (call (.ref f) us) (EP X pins σ Q) X.xe s := by
  obtain ⟨p, hp⟩ := pinned
  obtain ⟨p1, p2, p3, p4⟩ := J.pin p (List.mem_append_left _ hp)
  have same : us.length = ps.length := r.length.symm.trans (F.len _ _ _ _ z)
  have bound := bs s us J.kIn (by rw [List.append_nil]; exact same)
  rw [List.append_nil] at bound
  have pin : PinOk X.stack H s p := ⟨p1, p2, fun m => Or.elim (List.mem_cons.mp (J.stkSub p.1 m)) p3 p4.1, p4.2⟩
  refine wpAny_call (codeAny_mono (F.run X.A X.stack s H ⟨us, []⟩ us vs Q E0 p room pin J.env0 bound r z) (fun out s' w => ?_))
  match out, w with
  | .error _, w => exact w.elim
  | .ok (.ret u), w => exact J.after w
  | .ok .next, w => exact w.elim
  | .ok .brk, w => exact w.elim
  | .ok .cont, w => exact w.elim
theorem op_ownEqA (F : FnA X.prog X.w X.K X.mg X.base k f fd ps sp) (room : RoomH k X.A) (pinned : ∃ p, p ∈ X.pn) (bs : Binds X.K fd ps [])
    (hs : PySem.W.findIn X.K (.ref C) "__eq__" = some (some (.ref f))) (hf : PySem.W.isFn X.K (.ref f) = true) : OpR X (compareOp .Eq) (Mine.rOwn C sp E0) := by
  intro pins s σ H x y v u Q I rx ry h
  obtain ⟨a, b, dx, dy, fs, gs, rfl, rfl, ha, hb', q⟩ := h
  cases rx
  cases ry
  obtain ⟨mA, J, _⟩ := ins_get I.hok ha
  obtain ⟨mB, J', _⟩ := ins_get I.hok hb'
  obtain ⟨od, J, _⟩ := J.look
  obtain ⟨od', J', _⟩ := J'.look
  obtain ⟨m, hF⟩ := I.fr
  show wpAny (model X.prog X.w) X.A (richCompare .Eq _ _) (EP X pins σ Q) X.xe s
  refine PySem.W.cmp_K (op := .Eq) (tb := .ref C) (by have := room.un; omega) hF I.ok.mod.kin J J'.type (by simp [PySem.W.notFirst]) hs hf ?_
  have r2 : Vals [V.ref a, V.ref b] [Value.ref a, Value.ref b] := .cons rfl (.cons rfl .nil)
  refine wpAny_mono (run_fnA F room pinned bs I r2 q) (fun v s' hv => ?_) fun _ _ z => z
  obtain ⟨z, H', I', rz, q'⟩ := hv
  exact SlX.cmpback rz ⟨z, H', I', rz, q'⟩
end AnyF
theorem L2H.RoomH.units {k : Nat} {A : PySem.Around} (r : L2H.RoomH k A) : A.units + 64 < PySem.cLine := by have := r.un; omega
set_option Elab.async false
set_option linter.all false
set_option maxRecDepth 100000
set_option maxHeartbeats 8000000
namespace Toy
open PySem L2 NdefX Gm
open Mine hiding same_new
section
variable {P : Program} {w : World} {K : PySem.W.Frag} {mg : Str → Option Value} {base : Heap} {file : Str}
theorem ok_geqA (T : Txt K mg file) : AnyF.FnA P w K mg base 1 T.a_Game_eq T.fd_Game_eq ["self", "other"] (spGEq K T.C_Game) := by
  refine AnyF.fnA_of T.F_Game_eq sc_Game_eq (fun vs H Q E h => ?_) (fun cdv A outer s H vs Q E p hr h => ?_)
  · obtain ⟨g, h, G, F, k, d, k', d', rfl, _⟩ := h
    rfl
  obtain ⟨g, h, G, F, k, d, k', d', rfl, ⟨dx, a1, a2, a3, a4, hg, ga1, ga2, ga3, ga4⟩, ⟨dy, b1, b2, b3, b4, hh, gb1, gb2, gb3, gb4⟩, fG, fF, l1, l2, q⟩ := h
  refine ⟨_, (pss_one (ps_ret (pe_and (pe_callB call_isi (by rfl) T.z_isinstance (by decide +kernel) (pa_cons (pv 1) (pa_cons (pe_glob (v := .ref T.C_Game) rfl T.g_Game rfl) pa_nil))) (pe_and (pe_cmpR (op_eqD hr.units) (pe_fld (pv 0) rfl) (pe_fld (pv 1) rfl) (nomark _)) (pe_and (pe_cmpR (op_eqD hr.units) (pe_fld (pv 0) rfl) (pe_fld (pv 1) rfl) (nomark _)) (pe_and (pe_cmpR (op_eqD hr.units) (pe_fld (pv 0) rfl) (pe_fld (pv 1) rfl) (nomark _)) (pe_one (pe_cmpR (op_eqD hr.units) (pe_fld (pv 0) rfl) (pe_fld (pv 1) rfl) (nomark _))))))))), ?_⟩
  refine ⟨_, rfl, _, _, _, _, true, rfl, .own _, .base (.ins hh T.cl_Game T.ia_Game T.o_n T.o_t T.im_Game), T.ik_Game, true, rfl, iteT ?_⟩
  have c1 := fit_trips (n := 0) fG.vars
  have c2 := fit_trips (n := 0) fG.tabs
  have c3 := fit_trips (n := 0) fG.lots
  have c4 := fit_procs fG.procs
  have e1 := fit_trips (n := 0) fF.vars
  have e2 := fit_trips (n := 0) fF.tabs
  have e3 := fit_trips (n := 0) fF.lots
  have e4 := fit_procs fF.procs
  refine ⟨_, rfl, g, _, dx, _, _, rfl, hg, T.cl_Game, T.na_Game_variables, gf_variables _ _ _ _, _, rfl, h, _, dy, _, _, rfl, hh, T.cl_Game, T.na_Game_variables, gf_variables _ _ _ _, ?_⟩
  refine ⟨_, _, ga1, gb1, fit64 c1 (by omega), fit64 e1 (by omega), _, rfl, ?_⟩
  by_cases z1 : G.vars = F.vars
  case neg => exact ite_no (fun z => z1 (trips_inj ((eqv_iff c1.1 e1.1).mp z))) (q _ ⟨fun z => Bool.noConfusion z, fun z => absurd (congrArg Ga.vars z) z1⟩)
  refine ite_yes ((eqv_iff c1.1 e1.1).mpr (by rw [z1])) ?_
  refine ⟨_, rfl, g, _, dx, _, _, rfl, hg, T.cl_Game, T.na_Game_tables, gf_tables _ _ _ _, _, rfl, h, _, dy, _, _, rfl, hh, T.cl_Game, T.na_Game_tables, gf_tables _ _ _ _, ?_⟩
  refine ⟨_, _, ga2, gb2, fit64 c2 (by omega), fit64 e2 (by omega), _, rfl, ?_⟩
  by_cases z2 : G.tabs = F.tabs
  case neg => exact ite_no (fun z => z2 (trips_inj ((eqv_iff c2.1 e2.1).mp z))) (q _ ⟨fun z => Bool.noConfusion z, fun z => absurd (congrArg Ga.tabs z) z2⟩)
  refine ite_yes ((eqv_iff c2.1 e2.1).mpr (by rw [z2])) ?_
  refine ⟨_, rfl, g, _, dx, _, _, rfl, hg, T.cl_Game, T.na_Game_lots, gf_lots _ _ _ _, _, rfl, h, _, dy, _, _, rfl, hh, T.cl_Game, T.na_Game_lots, gf_lots _ _ _ _, ?_⟩
  refine ⟨_, _, ga3, gb3, fit64 c3 (by omega), fit64 e3 (by omega), _, rfl, ?_⟩
  by_cases z3 : G.lots = F.lots
  case neg => exact ite_no (fun z => z3 (trips_inj ((eqv_iff c3.1 e3.1).mp z))) (q _ ⟨fun z => Bool.noConfusion z, fun z => absurd (congrArg Ga.lots z) z3⟩)
  refine ite_yes ((eqv_iff c3.1 e3.1).mpr (by rw [z3])) ?_
  refine ⟨_, rfl, g, _, dx, _, _, rfl, hg, T.cl_Game, T.na_Game_procs, gf_procs _ _ _ _, _, rfl, h, _, dy, _, _, rfl, hh, T.cl_Game, T.na_Game_procs, gf_procs _ _ _ _, ?_⟩
  refine ⟨_, _, ga4, gb4, fit64 c4 (by omega), fit64 e4 (by omega), q _ ?_⟩
  refine (eqv_iff c4.1 e4.1).trans ⟨fun z => Ga.ext z1 z2 z3 (procs_inj z), fun z => by rw [z]⟩
theorem ok_s0A (T : Txt K mg file) : AnyF.FnA P w K mg base 1 T.a_law_same T.fd_law_same ["actual", "due"] spS0 := by
  refine AnyF.fnA_of T.F_law_same sc_law_same (fun vs H Q E h => ?_) (fun cdv A outer s H vs Q E p hr h => ?_)
  · rcases h with ⟨i, j, rfl, _⟩ | ⟨i, j, rfl, _⟩ <;> rfl
  refine ⟨_, (pss_cons (ps_if (PW.pt (pw_or (pt_val (pe_callB call_isi (by rfl) T.z_isinstance (by decide +kernel) (pa_cons (pv 1) (pa_cons (pe_bltn (v := .ty "tuple") (by rfl) T.z_tuple (by decide +kernel) rfl) pa_nil)))) (pw_or1 (pt_val (pe_callB call_isi (by rfl) T.z_isinstance (by decide +kernel) (pa_cons (pv 1) (pa_cons (pe_bltn (v := .ty "list") (by rfl) T.z_list (by decide +kernel) rfl) pa_nil))))))) pss_never pss_nil)
    (pss_cons (ps_if (PW.pt (pw_or (pt_cmpR op_isN (pv 1) pe_non (nomark _)) (pw_or1 (pt_val (pe_callB call_isi (by rfl) T.z_isinstance (by decide +kernel) (pa_cons (pv 1) (pa_cons (pe_bltn (v := .ty "bool") (by rfl) T.z_bool (by decide +kernel) rfl) pa_nil)))))))
      (pss_one (ps_ret (pe_and (pe_cmpR op_eq (pe_cmpR op_isN (pv 0) pe_non (nomark _)) (pe_cmpR op_isN (pv 1) pe_non (nomark _)) (nomark _)) (pe_and (pe_or (pe_cmpR op_isN (pv 1) pe_non (nomark _)) (pe_one (pe_callB call_isi (by rfl) T.z_isinstance (by decide +kernel) (pa_cons (pv 0) (pa_cons (pe_bltn (v := .ty "bool") (by rfl) T.z_bool (by decide +kernel) rfl) pa_nil))))) (pe_one (pe_cmpR op_eq (pv 0) (pv 1) (nomark _)))))))
      pss_nil)
    (pss_cons (ps_if (pt_val (pe_callB call_isi (by rfl) T.z_isinstance (by decide +kernel) (pa_cons (pv 1) (pa_cons (pe_bltn (v := .ty "int") (by rfl) T.z_int (by decide +kernel) rfl) pa_nil))))
      (pss_one (ps_ret (pe_and (pe_callB call_isi (by rfl) T.z_isinstance (by decide +kernel) (pa_cons (pv 0) (pa_cons (pe_bltn (v := .ty "int") (by rfl) T.z_int (by decide +kernel) rfl) pa_nil))) (pe_and (pe_not (pe_callB call_isi (by rfl) T.z_isinstance (by decide +kernel) (pa_cons (pv 0) (pa_cons (pe_bltn (v := .ty "bool") (by rfl) T.z_bool (by decide +kernel) rfl) pa_nil)))) (pe_one (pe_cmpR op_eq (pv 0) (pv 1) (nomark _)))))))
      pss_nil)
    (pss_one (ps_ret (pe_and (pe_callB call_isi (by rfl) T.z_isinstance (by decide +kernel) (pa_cons (pv 0) (pa_cons (pe_bltn (v := .ty "str") (by rfl) T.z_str (by decide +kernel) rfl) pa_nil))) (pe_one (pe_cmpR op_eq (pv 0) (pv 1) (nomark _))))))))), ?_⟩
  rcases h with ⟨i, j, rfl, q⟩ | ⟨i, j, rfl, q⟩
  · have j' : TyX K H (.bl j) (.type "bool") := .base (.bl j)
    have i' : TyX K H (.bl i) (.type "bool") := .base (.bl i)
    refine isi_rd rfl j' (by decide +kernel) (iteF (isi_rd rfl j' (by decide +kernel) (iteF ?_)))
    refine ⟨_, rfl, rfl, _, rfl, ite_no (by simp) (isi_rd rfl j' (by decide +kernel) (iteT ?_))⟩
    refine ⟨_, rfl, rfl, _, rfl, rfl, rfl, _, rfl, iteT2 (by simp) ?_⟩
    refine ⟨_, rfl, rfl, _, rfl, iteF2 (by simp) (isi_rv (b := true) rfl i' (by decide +kernel) ⟨_, rfl, iteT ⟨_, rfl, _, rfl, rfl, ?_⟩⟩)⟩
    rw [show decide (V.bl i = V.bl j) = decide (i = j) by simp]
    exact q
  · have j' : TyX K H (.str j) (.type "str") := .base (.str j)
    have i' : TyX K H (.str i) (.type "str") := .base (.str i)
    refine isi_rd rfl j' (by decide +kernel) (iteF (isi_rd rfl j' (by decide +kernel) (iteF ?_)))
    refine ⟨_, rfl, rfl, _, rfl, ite_no (by simp) (isi_rd rfl j' (by decide +kernel) (iteF ?_))⟩
    refine isi_rd rfl j' (by decide +kernel) (iteF ?_)
    refine isi_rv (b := true) rfl i' (by decide +kernel) ⟨_, rfl, iteT ⟨_, rfl, _, rfl, rfl, ?_⟩⟩
    rw [show decide (V.str i = V.str j) = decide (i = j) by simp]
    exact q
end
end Toy
set_option Elab.async false
set_option linter.all false
set_option maxRecDepth 100000
set_option maxHeartbeats 8000000
namespace Toy
open PySem L2 NdefX Gm
open Mine hiding same_new
def tb_until {mg : Str → Option Value} {file : Str} (K : PySem.W.Frag) (T : Txt K mg file) : WX → TS := fun W => tDrop (MethT.tMethT T.C_Derivation "step" (spStep K T) (WE W) (tVar 2) (tCons (tTup (tCons (tC (.str "until")) (tCons (tVar 1) tNil))) tNil))
def ts_until (K : PySem.W.Frag) (CG CD B : Addr) : Addr → Value → Option Addr → TS := fun a cls d => tRet (tAndV (tCall spS0 [] E0 (tCons (tXf a cls d B "rule" (tVar 3)) (tCons (tC (.str "until")) tNil))) (tOp (rOwn CG (spGEq K CG) E0) (tFld K (tVar 2) "last") (tVar 0)))
def spUnt {mg : Str → Option Value} {file : Str} (K : PySem.W.Frag) (T : Txt K mg file) : Sp := fun vs H Q _ => ∃ (g h : Addr) (G F : Ga), vs = [.ref g, .ref h] ∧ GmD K T.C_Game H g G ∧ GmD K T.C_Game H h F ∧ SzU G ∧ SzU F ∧ G.ub ≠ F.ub ∧ TabsN (tbs T) H ∧ ∀ H', Mo H H' → TabsN (tbs T) H' → Q (.bl true) H'
section
variable {P : Program} {w : World} {K : PySem.W.Frag} {mg : Str → Option Value} {base : Heap} {file : Str}
theorem ok_unt (hP : PrF P file) (T : Txt K mg file) (TB : TBs T base) : FnOk P w K mg base CX0 32 T.a_law_until T.fd_law_until ["made", "other"] (spUnt K T) := by
  have G_Derivation_step : FnOk P w K mg base (L2.CX P w) 30 T.a_Derivation_step T.fd_Derivation_step ["self", "step"] (spStep K T) := ok_step hP T TB
  have G_Derivation_init : FnOk P w K mg base CX0 5 T.a_Derivation_init T.fd_Derivation_init ["self", "game"] (spDInit T.C_Derivation) := ok_dinit T
  have G_Derivation_step : FnOk P w K mg base (L2.CX P w) 30 T.a_Derivation_step T.fd_Derivation_step ["self", "step"] (spStep K T) := ok_step hP T TB
  have G_Derivation_init : FnOk P w K mg base CX0 5 T.a_Derivation_init T.fd_Derivation_init ["self", "game"] (spDInit T.C_Derivation) := ok_dinit T
  have G_Game_eqA : AnyF.FnA P w K mg base 1 T.a_Game_eq T.fd_Game_eq ["self", "other"] (spGEq K T.C_Game) := ok_geqA T
  have G_law_sameA : AnyF.FnA P w K mg base 1 T.a_law_same T.fd_law_same ["actual", "due"] spS0 := ok_s0A T
  refine T.F_law_until.ok sc_law_until (fun vs H Q E h => ?_) (fun cdv A outer s H vs Q E hr h => ?_)
  · obtain ⟨g, h, G, F, rfl, _⟩ := h
    rfl
  obtain ⟨g, h', G, F, rfl, hg, hh, sG, sF, ne, tb, q⟩ := h
  refine ⟨_, (pss_cons (ps_set (i := 2) sc_law_until.nd rfl (Or.inl rfl) (pe_make T.mk_Derivation G_Derivation_init (hr.mono (by omega)) rfl T.g_Derivation T.b_Derivation_init .nil pass0 (pa_cons (pv 0) pa_nil)))
    (pss_cons (ps_try_as (i := 3) (tb := tb_until K T) (ts := ts_until K T.C_Game T.C_Derivation T.C_BadStep) (Wout := fun _ _ _ _ => False) rfl rfl sc_law_until.nd rfl rfl ⟨rfl, by decide, Or.inl T.g_BadStep⟩ L2.takes0
      (fun W pn xe tk _ => by exact (pss_one (ps_expr (MethT.pe_methT (pv 2) T.cl_Derivation T.m_Derivation_step G_Derivation_step (hr.mono (show 30 ≤ 31 by decide)) T.b_Derivation_step (fun σ => passAt tk σ) (pa_cons (pe_tup (pa_cons pe_str (pa_cons (pv 1) pa_nil))) pa_nil)))))
      (fun a oe cls d pn hz hf => by exact (pss_one (ps_ret (pe_and (AnyF.pe_callA G_law_sameA (L2H.RoomH.mono (k := 31) ⟨hr.dp, hr.un⟩ (by decide)) ⟨_, List.mem_cons_self ..⟩ rfl T.g_law_same T.k_law_same T.b_law_same (pa_cons ((pe_xf ⟨T.xga_BadStep, T.xgg_BadStep, T.xb_BadStep, T.xd_BadStep⟩ T.E_BadStep.no hz hf (pv 3))) (pa_cons pe_str pa_nil))) (pe_one (pe_cmpR (AnyF.op_ownEqA G_Game_eqA (L2H.RoomH.mono (k := 31) ⟨hr.dp, hr.un⟩ (by decide)) ⟨_, List.mem_cons_self ..⟩ T.b_Game_eq T.m_Game_eq.at_ T.m_Game_eq.fn) (pe_fld (pv 2) rfl) (pv 0) (nomark _))))))))
    (pss_one (ps_ret pe_bl)))), ?_⟩
  refine ⟨_, rfl, fun x dx nx nd nn => ⟨x, dx, g, rfl, upd_same, fun b H1 m1 e1 => ⟨rfl, ?_⟩⟩⟩
  refine gn ?_
  dsimp only
  have s1 : Same H H1 := fun z o e => m1 z o (by rw [upd_ne (ne_of_none e nx), upd_ne (ne_of_none e nd)]; exact e) (ne_of_none e nx)
  refine ⟨_, rfl, x, dx, _, rfl, e1, df_no g b (by decide +kernel) (by decide +kernel) (by decide +kernel), _, rfl, by show 2 ≤ sizeLine; decide, fun t ht => ?_⟩
  have s2 := same_new ht (.tup [V.str "until", .ref h'])
  have s12 := s1.trans s2
  refine ⟨x, g, b, dx, t, rfl, s2 _ _ e1, ⟨⟨h', G, F, SqT.of upd_same, hg.same s12, hh.same s12, sG, sF, ne⟩, tabs_same tb s12⟩, fun d H3 mo tb3 hd => ?_⟩
  refine ⟨true, PySem.W.exm_ref T.xb_BadStep T.xd_BadStep T.xt_BadStep T.sub_ss, fun _ a' na => ?_, fun z => Bool.noConfusion z⟩
  have e3 := mo _ _ (s2 _ _ e1) (fun _ z => (nomatch z)) (fun _ _ z => (nomatch z))
  have hg3 := (hg.same s12).mo mo
  obtain ⟨gx, _, _, _, _, o1, _⟩ := id hg3
  refine ⟨_, rfl, rfl, rfl, d, _, _, rfl, hd, rfl, .inr ⟨"until", "until", rfl, _, rfl, iteT2 (by simp) ?_⟩⟩
  refine ⟨_, rfl, x, _, dx, _, _, rfl, e3, T.cl_Derivation, T.na_Derivation_last, df_last g b, _, rfl, g, g, gx, gx, _, _, rfl, rfl, o1, o1, g, g, G, G, 6, 6, 6, 6, rfl, hg3, hg3, sG.f, sG.f, by decide, by decide, fun c hc => ?_⟩
  rw [hc.mpr rfl]
  exact q _ ((Mo.of s12).trans mo) tb3
end
end Toy
set_option Elab.async false
set_option linter.all false
set_option maxRecDepth 100000
set_option maxHeartbeats 8000000
namespace Toy
open PySem L2 NdefX Gm
open Mine hiding same_new
open Pz (But)
theorem mk_rd {K : PySem.W.Frag} {C : Addr} {i : Nat} {σ : L2.St} {H : Hp} {Q : VK} {ga : Addr} {v0 v1 v2 u v3 : V} {G : Ga} {te : TE} (e : σ[i]? = some (some (.ref ga))) (hg : SqT K H ga [v0, v1, v2, u]) (ht : ∀ Q' : VK, Q' v3 H → te σ H Q')
    (d0 : Dp K H v0 (trips G.vars)) (d1 : Dp K H v1 (trips G.tabs)) (d2 : Dp K H v2 (trips G.lots)) (d3 : Dp K H v3 (.tuple (G.procs.map Pr.d))) (h : ∀ x H', Same H H' → GmD K C H' x G → Q (.ref x) H') :
    tMake C (spGInit C) [] E0 (tCons (tOp (rIxT K) (tVar i) (tC (.int 0))) (tCons (tOp (rIxT K) (tVar i) (tC (.int 1))) (tCons (tOp (rIxT K) (tVar i) (tC (.int 2))) (tCons te tNil)))) σ H Q := by
  refine ⟨_, e, ga, _, 0, _, rfl, rfl, hg, atI_nat (j := 0) rfl, _, e, ga, _, 1, _, rfl, rfl, hg, atI_nat (j := 1) rfl, _, e, ga, _, 2, _, rfl, rfl, hg, atI_nat (j := 2) rfl, ht _ ?_⟩
  intro x dx nx nd nn
  refine ⟨x, dx, v0, v1, v2, v3, rfl, upd_same, fun H' e' o' => ⟨rfl, ?_⟩⟩
  have s : Same H H' := fun b o eb => o' b o (by rw [upd_ne (ne_of_none eb nx), upd_ne (ne_of_none eb nd)]; exact eb) (ne_of_none eb nx)
  exact h x H' s ⟨dx, v0, v1, v2, v3, e', dp_mono s _ _ d0, dp_mono s _ _ d1, dp_mono s _ _ d2, dp_mono s _ _ d3⟩
theorem ix_rd {K : PySem.W.Frag} {i : Nat} {σ : L2.St} {H : Hp} {ga : Addr} {v0 v1 v2 v3 : V} (e : σ[i]? = some (some (.ref ga))) (hg : SqT K H ga [v0, v1, v2, v3]) (Q' : VK) (q : Q' v3 H) : tOp (rIxT K) (tVar i) (tC (.int 3)) σ H Q' :=
  ⟨_, e, ga, _, 3, _, rfl, rfl, hg, atI_nat (j := 3) rfl, q⟩
theorem sa_i {te : TE} {g : TG} {v : TS} {D : Ends} {σ : L2.St} {H : Hp} (h : te σ H fun x H' => g x σ H' (v D)) : tSeq (tAsg te g) v D σ H := h
theorem gm_at {K : PySem.W.Frag} {C : Addr} {H : Hp} {g : Addr} {G : Ga} (h : GmD K C H g G) : ∃ dx fs, H g = some (.ins C dx fs) := by
  obtain ⟨dx, a, b, c, d, h0, _⟩ := h
  exact ⟨_, _, h0⟩
theorem SzU.of {G : Ga} (h : Sz G) : SzU G := ⟨h.f, h.n, h.t⟩
theorem bool_no {b : Bool} {p : Prop} (h : b = true ↔ p) (n : ¬ p) : b = false := by
  cases b with
  | false => rfl
  | true => exact absurd (h.mp rfl) n
def spLaw {mg : Str → Option Value} {file : Str} (K : PySem.W.Frag) (T : Txt K mg file) : Sp := fun vs H Q _ => ∃ (a : Addr) (ns : List Int), vs = [.ref a] ∧ SqL K H a (ns.map V.int) ∧ ns.length ≤ 63 ∧ TabsN (tbs T) H ∧ ∀ H', Q (.bl true) H'
section
variable {P : Program} {w : World} {K : PySem.W.Frag} {mg : Str → Option Value} {base : Heap} {file : Str}
theorem ok_law (hP : PrF P file) (T : Txt K mg file) (TB : TBs T base) : FnOk P w K mg base CX0 60 T.a_law T.fd_law ["script"] (spLaw K T) := by
  have G_law_pool : FnOk P w K mg base CX0 1 T.a_law_pool T.fd_law_pool ["script", "budget"] (spPool K) := ok_pool T
  have G_law_draw : FnOk P w K mg base CX0 1 T.a_law_draw T.fd_law_draw ["pool", "size"] spDraw := ok_draw T
  have G_law_game : FnOk P w K mg base CX0 30 T.a_law_game T.fd_law_game ["pool", "wide", "ways"] (spLGame K) := ok_lgame T
  have G_Game_init : FnOk P w K mg base CX0 1 T.a_Game_init T.fd_Game_init ["self", "variables", "tables", "lots", "procs"] (spGInit T.C_Game) := ok_ginit T
  have G_Game_eq : FnOk P w K mg base CX0 1 T.a_Game_eq T.fd_Game_eq ["self", "other"] (spGEq K T.C_Game) := ok_geq T
  have G_alike : FnOk P w K mg base CX0 24 T.a_alike T.fd_alike ["game", "other"] (spAlk K T) := ok_alike T TB
  have G_law_same : FnOk P w K mg base CX0 3 T.a_law_same T.fd_law_same ["actual", "due"] spSm := ok_sm T
  have G_law_rows : FnOk P w K mg base CX0 22 T.a_law_rows T.fd_law_rows ["game"] (spRows K) := ok_rows T
  have G_law_procs : FnOk P w K mg base CX0 22 T.a_law_procs T.fd_law_procs ["game"] (spRows K) := ok_procs T
  have G_law_within : FnOk P w K mg base CX0 1 T.a_law_within T.fd_law_within ["block"] (spWn K) := ok_wn T
  have G_law_until : FnOk P w K mg base CX0 32 T.a_law_until T.fd_law_until ["made", "other"] (spUnt K T) := ok_unt hP T TB
  refine T.F_law.ok sc_law (fun vs H Q E h => ?_) (fun cdv A outer s H vs Q E hr h => ?_)
  · obtain ⟨a, ns, rfl, _⟩ := h
    rfl
  obtain ⟨sa, ns, rfl, hS, hn63, tb, q⟩ := h
  refine ⟨_, (pss_cons (ps_set (i := 1) sc_law.nd rfl (Or.inl rfl) (pe_call G_law_pool (hr.mono (by omega)) rfl T.g_law_pool T.k_law_pool T.b_law_pool .nil pass0 (pa_cons (pv 0) (pa_cons pe_int pa_nil))))
    (pss_cons (ps_set (i := 2) sc_law.nd rfl (Or.inl rfl) (pe_call G_law_game (hr.mono (by omega)) rfl T.g_law_game T.k_law_game T.b_law_game .nil pass0 (pa_cons (pv 1) (pa_cons pe_bl (pa_cons pe_int pa_nil)))))
    (pss_cons (ps_if (pt_cmpR op_eq (pe_call G_law_draw (hr.mono (by omega)) rfl T.g_law_draw T.k_law_draw T.b_law_draw .nil pass0 (pa_cons (pv 1) (pa_cons pe_int pa_nil))) pe_int (nomark _))
      (pss_cons (ps_setLc (i := 3) (own := [("proc", 4)]) (g := gName 4) (tt := tYes) rfl sc_law.nd rfl rfl (sw_true rfl rfl rfl (by decide +kernel)) (pi_tup (pe_ix ix_tup (pv 2) pe_int (fun _ _ => rfl))) (blkOk_by (own := [("proc", 4)]) (N := ["script", "pool", "game", "procs", "proc", "made", "same_v", "other", "drawn"]) (sc := defScope s_law) (by decide +kernel)) (fun _ _ _ _ _ => pg_name (i := 4) sc_law.nd rfl (Or.inl rfl)) (fun _ _ _ _ _ => pts_nil) (fun _ _ _ _ _ => (pe_op (CatB.op_catB K rfl) (pe_slice (slTB K rfl) (pv 4) po_none (po_some pe_int)) (pe_tup (pa_cons (pe_op (CatB.op_catB K rfl) (pe_tup (pa_cons (pe_tup (pa_cons pe_str (pa_cons (pe_tup (pa_cons (pe_tup (pa_cons pe_str (pa_cons pe_str (pa_cons (pe_tup (pa_cons pe_str (pa_cons pe_int pa_nil))) pa_nil)))) pa_nil)) pa_nil))) pa_nil)) (pe_ix (ixtK K rfl) (pv 4) pe_int (fun _ _ => rfl))) (pa_cons (pe_ix (ixtK K rfl) (pv 4) pe_int (fun _ _ => rfl)) pa_nil))))))
    (pss_one (ps_set (i := 2) sc_law.nd rfl (Or.inl rfl) (pe_op (CatB.op_catB K rfl) (pe_slice (slTB K rfl) (pv 2) po_none (po_some pe_int)) (pe_tup (pa_cons (pe_callTy call_tuple_of (by rfl) T.z_tuple (by decide +kernel) (pa_cons (pv 3) pa_nil)) pa_nil))))))
      pss_nil)
    (pss_cons (ps_set (i := 5) sc_law.nd rfl (Or.inl rfl) (pe_make T.mk_Game G_Game_init (hr.mono (by omega)) rfl T.g_Game T.b_Game_init .nil pass0 (pa_cons (pe_ix ix_tup (pv 2) pe_int (fun _ _ => rfl)) (pa_cons (pe_ix ix_tup (pv 2) pe_int (fun _ _ => rfl)) (pa_cons (pe_ix ix_tup (pv 2) pe_int (fun _ _ => rfl)) (pa_cons (pe_ix ix_tup (pv 2) pe_int (fun _ _ => rfl)) pa_nil))))))
    (pss_cons (ps_set (i := 6) sc_law.nd rfl (Or.inl rfl) (pe_make T.mk_Game G_Game_init (hr.mono (by omega)) rfl T.g_Game T.b_Game_init .nil pass0 (pa_cons (pe_ix ix_tup (pv 2) pe_int (fun _ _ => rfl)) (pa_cons (pe_ix ix_tup (pv 2) pe_int (fun _ _ => rfl)) (pa_cons (pe_ix ix_tup (pv 2) pe_int (fun _ _ => rfl)) (pa_cons (pe_ix ix_tup (pv 2) pe_int (fun _ _ => rfl)) pa_nil))))))
    (pss_cons (ps_if (pt_not (pt_val (pe_call G_law_same (hr.mono (by omega)) rfl T.g_law_same T.k_law_same T.b_law_same .nil pass0 (pa_cons (pe_lst (pa_cons (pe_cmpR (op_ownEq G_Game_eq (hr.mono (by omega)) T.b_Game_eq pass0 T.m_Game_eq.at_ T.m_Game_eq.fn) (pv 5) (pv 6) (nomark _)) (pa_cons (pe_call G_alike (hr.mono (by omega)) rfl T.g_alike T.k_alike T.b_alike .nil pass0 (pa_cons (pv 5) (pa_cons (pv 6) pa_nil))) pa_nil))) (pa_cons (pe_lst (pa_cons pe_bl (pa_cons pe_bl pa_nil))) pa_nil)))))
      (pss_one (ps_ret pe_bl))
      pss_nil)
    (pss_cons (ps_for PassesOwn.never rfl (pi_list (pe_op op_cat (pe_call G_law_rows (hr.mono (by omega)) rfl T.g_law_rows T.k_law_rows T.b_law_rows .nil pass0 (pa_cons (pv 2) pa_nil)) (pe_call G_law_procs (hr.mono (by omega)) rfl T.g_law_procs T.k_law_procs T.b_law_procs .nil pass0 (pa_cons (pv 2) pa_nil)))) (pg_name (i := 7) sc_law.nd rfl (Or.inl rfl))
      (pss_one (ps_if ((pt_cmpR (neDK K rfl hr.units) (pv 7) (pv 2) (nomark _)))
      (pss_cons (ps_set (i := 8) sc_law.nd rfl (Or.inl rfl) (pe_make T.mk_Game G_Game_init (hr.mono (by omega)) rfl T.g_Game T.b_Game_init .nil pass0 (pa_cons (pe_ix ix_tup (pv 7) pe_int (fun _ _ => rfl)) (pa_cons (pe_ix ix_tup (pv 7) pe_int (fun _ _ => rfl)) (pa_cons (pe_ix ix_tup (pv 7) pe_int (fun _ _ => rfl)) (pa_cons (pe_ix ix_tup (pv 7) pe_int (fun _ _ => rfl)) pa_nil))))))
    (pss_cons (ps_if (pt_not (pt_val (pe_call G_law_same (hr.mono (by omega)) rfl T.g_law_same T.k_law_same T.b_law_same .nil pass0 (pa_cons (pe_lst (pa_cons (pe_cmpR (op_ownEq G_Game_eq (hr.mono (by omega)) T.b_Game_eq pass0 T.m_Game_eq.at_ T.m_Game_eq.fn) (pv 5) (pv 8) (nomark _)) (pa_cons (pe_cmpR (op_ownEq G_Game_eq (hr.mono (by omega)) T.b_Game_eq pass0 T.m_Game_eq.at_ T.m_Game_eq.fn) (pv 8) (pv 5) (nomark _)) (pa_cons (pe_call G_alike (hr.mono (by omega)) rfl T.g_alike T.k_alike T.b_alike .nil pass0 (pa_cons (pv 5) (pa_cons (pv 8) pa_nil))) (pa_cons (pe_call G_alike (hr.mono (by omega)) rfl T.g_alike T.k_alike T.b_alike .nil pass0 (pa_cons (pv 8) (pa_cons (pv 5) pa_nil))) pa_nil))))) (pa_cons (pe_op op_rep (pe_lst (pa_cons pe_bl pa_nil)) pe_int) pa_nil)))))
      (pss_one (ps_ret pe_bl))
      pss_nil)
    (pss_one (ps_if (pt_not (pt_val (pe_call G_law_until (hr.mono (by omega)) rfl T.g_law_until T.k_law_until T.b_law_until .nil pass0 (pa_cons (pv 5) (pa_cons (pv 8) pa_nil)))))
      (pss_one (ps_ret pe_bl))
      pss_nil))))
      pss_nil)))
    (pss_cons (ps_set (i := 3) sc_law.nd rfl (Or.inl rfl) (pe_callTy call_tuple_of (by rfl) T.z_tuple (by decide +kernel) (pa_cons (pe_lc (own := [("proc", 4)]) (g := gName 4) (tt := tYes) rfl sc_law.nd (pi_tup (pe_ix ix_tup (pv 2) pe_int (fun _ _ => rfl))) (blkOk_by (own := [("proc", 4)]) (N := ["script", "pool", "game", "procs", "proc", "made", "same_v", "other", "drawn"]) (sc := defScope s_law) (by decide +kernel)) (fun _ _ _ _ _ => pg_name (i := 4) sc_law.nd rfl (Or.inl rfl)) (fun _ _ _ _ _ => pts_nil) (fun _ _ _ _ _ => (pe_op (CatB.op_catB K rfl) (pe_slice (slTB K rfl) (pv 4) po_none (po_some pe_int)) (pe_tup (pa_cons (pe_call G_law_within (hr.mono (by omega)) rfl T.g_law_within T.k_law_within T.b_law_within .nil pass0 (pa_cons (pe_ix (ixtK K rfl) (pv 4) pe_int (fun _ _ => rfl)) pa_nil)) (pa_cons (pe_ix (ixtK K rfl) (pv 4) pe_int (fun _ _ => rfl)) pa_nil)))))) pa_nil)))
    (pss_cons (ps_set (i := 8) sc_law.nd rfl (Or.inl rfl) (pe_make T.mk_Game G_Game_init (hr.mono (by omega)) rfl T.g_Game T.b_Game_init .nil pass0 (pa_cons (pe_ix ix_tup (pv 2) pe_int (fun _ _ => rfl)) (pa_cons (pe_ix ix_tup (pv 2) pe_int (fun _ _ => rfl)) (pa_cons (pe_ix ix_tup (pv 2) pe_int (fun _ _ => rfl)) (pa_cons (pv 3) pa_nil))))))
    (pss_cons (ps_if (pt_not (pt_val (pe_call G_law_same (hr.mono (by omega)) rfl T.g_law_same T.k_law_same T.b_law_same .nil pass0 (pa_cons (pe_lst (pa_cons (pe_call G_alike (hr.mono (by omega)) rfl T.g_alike T.k_alike T.b_alike .nil pass0 (pa_cons (pv 5) (pa_cons (pv 8) pa_nil))) (pa_cons (pe_call G_alike (hr.mono (by omega)) rfl T.g_alike T.k_alike T.b_alike .nil pass0 (pa_cons (pv 8) (pa_cons (pv 5) pa_nil))) pa_nil))) (pa_cons (pe_lst (pa_cons pe_bl (pa_cons pe_bl pa_nil))) pa_nil)))))
      (pss_one (ps_ret pe_bl))
      pss_nil)
    (pss_one (ps_ret (pe_call G_law_same (hr.mono (by omega)) rfl T.g_law_same T.k_law_same T.b_law_same .nil pass0 (pa_cons (pe_lst (pa_cons (pe_cmpR (op_ownEq G_Game_eq (hr.mono (by omega)) T.b_Game_eq pass0 T.m_Game_eq.at_ T.m_Game_eq.fn) (pv 5) (pv 8) (nomark _)) (pa_cons (pe_cmpR (op_ownEq G_Game_eq (hr.mono (by omega)) T.b_Game_eq pass0 T.m_Game_eq.at_ T.m_Game_eq.fn) (pv 8) (pv 5) (nomark _)) pa_nil))) (pa_cons (pe_lst (pa_cons (pe_cmpR (eqDK K rfl hr.units) (pv 3) (pe_ix ix_tup (pv 2) pe_int (fun _ _ => rfl)) (nomark _)) (pa_cons (pe_cmpR (eqDK K rfl hr.units) (pv 3) (pe_ix ix_tup (pv 2) pe_int (fun _ _ => rfl)) (nomark _)) pa_nil))) pa_nil))))))))))))))), ?_⟩
  refine ⟨_, rfl, sa, ns, 0, rfl, hS, fun a l H1 m1 na p1 => ?_⟩
  refine ⟨_, rfl, a, l, ns, 0, false, 3, rfl, by decide, by decide, p1, fun gv0 G0 H2 b2 bt2 p2 dG0 gw => ?_⟩
  have s2 : Same H H2 := fun b o e => bt2 b o (m1 b o e) (ne_of_none e na)
  have gd0 := GdU.ofW gw
  have tot0 := GaW.tot gw
  refine gn ?_
  dsimp only
  refine seq_k (fun σ H' => ∃ (av : V) (gv : V) (G : Ga) (y3 y4 : Option V), σ = [some (.ref sa), some av, some gv, y3, y4, none, none, none, none] ∧ Same H H' ∧ Dp K H' gv G.d ∧ GdU G) ?_ (fun k => ?_)
  rotate_left
  · refine ⟨_, rfl, a, l, ns, b2, 2, rfl, p2, by decide, by decide, fun r H3 r0 r1 bt3 p3 => ⟨rfl, _, rfl, ite2 (fun _ => ?_) (fun _ => ?_)⟩⟩
    rotate_left
    · have s3 : Same H H3 := fun b o e => bt3 b o (s2 b o e) (ne_of_none e na)
      obtain ⟨q1, q2, q3, q4, ep, _⟩ := p2
      exact k _ _ ⟨_, gv0, G0, none, none, rfl, s3, dp_tups (Toy.But.tup bt3 ep) _ _ (Ga.nol G0) dG0, gd0⟩
    have s3 : Same H H3 := fun b o e => bt3 b o (s2 b o e) (ne_of_none e na)
    have dG3 : Dp K H3 gv0 G0.d := by
      obtain ⟨q1, q2, q3, q4, ep, _⟩ := p2
      exact dp_tups (Toy.But.tup bt3 ep) _ _ (Ga.nol G0) dG0
    clear dG0 p2 p3 p1
    obtain ⟨ga, v0, v1, v2, v3, rfl, hg, d0, d1, d2, d3⟩ := four_inv dG3
    obtain ⟨pa, ps, rfl, hpa, dps⟩ := dp_inv d3
    have lps : ps.length = G0.procs.length := (DpAll.len dps).trans (List.length_map _)
    have lp2 := gd0.pl
    refine ⟨_, rfl, ga, _, 3, _, rfl, rfl, hg, atI_nat (j := 3) rfl, pa, rfl, ⟨_, hpa⟩, fun D hD => ?_⟩
    refine lc_tup (K := K) (a := pa) (xs := ps) (fun i H' => ∃ us, Acc K H3 H' D us (((G0.procs.take i).map Pr.af).map Pr.d)) ⟨[], Acc.start hD⟩ (fun i H' _ ⟨_, ac⟩ => sqT_mono ac.s hpa) ?_ ?_
    · rintro i x H' hx ⟨us, ac⟩
      have hi := (List.getElem?_eq_some_iff.mp hx).1
      obtain ⟨p, ep⟩ : ∃ p, G0.procs[i]? = some p := ⟨G0.procs[i]'(lps ▸ hi), List.getElem?_eq_getElem _⟩
      obtain ⟨x', ex, dp⟩ := DpAll.get dps (show (G0.procs.map Pr.d)[i]? = some p.d by rw [List.getElem?_map, ep]; rfl)
      rw [hx] at ex
      cases ex
      have hm := List.mem_of_getElem? ep
      obtain ⟨ra, vl, vb, vr, rfl, hra, dl, db, dr⟩ := pr6 (dp_mono ac.s _ _ dp)
      obtain ⟨ba, bs, rfl, hba, dbs⟩ := dp_inv db
      have lbs : bs.length ≤ 100 := by
        have h1 := DpAll.len dbs
        rw [Blk.ds_l, List.length_map] at h1
        have := blk_len_tot p.block
        have := tot0 p hm
        omega
      have lus : us.length ≤ 100 := by
        have := ac.len
        rw [List.length_map, List.length_map, List.length_take] at this
        omega
      refine ⟨rfl, _, rfl, _, rfl, ra, _, rfl, hra, fun c1 H4 m4 hc1 => ?_⟩
      refine ⟨big 2 (by decide), fun t1 h1 => ⟨big 3 (by decide), fun t2 h2 => ⟨big 1 (by decide), fun t3 h3 => ⟨big 2 (by decide), fun t4 h4 => ⟨big 1 (by decide), fun t5 h5 => ?_⟩⟩⟩⟩⟩
      have n1 := Gm.same_new h1 (.tup [V.str "number", .int 1])
      have n2 := Gm.same_new h2 (.tup [V.str "let", .str "a", .ref t1])
      have n3 := Gm.same_new h3 (.tup [V.ref t2])
      have n4 := Gm.same_new h4 (.tup [V.str "after", .ref t3])
      have n5 := Gm.same_new h5 (.tup [V.ref t4])
      have m5 := m4.trans (n1.trans (n2.trans (n3.trans (n4.trans n5))))
      refine ⟨_, rfl, ra, _, 4, _, rfl, rfl, sqT_mono m5 hra, atI_nat (j := 4) rfl, t5, ba, _, bs, rfl, rfl, SqT.of upd_same, sqT_mono m5 hba, by show 1 + bs.length ≤ sizeLine; exact big _ (by omega), fun c2 H6 m6 hc2 => ?_⟩
      have m06 := m5.trans m6
      refine ⟨_, rfl, ra, _, 5, _, rfl, rfl, sqT_mono m06 hra, atI_nat (j := 5) rfl, big 2 (by decide), fun t6 h6 => ?_⟩
      have n6 := Gm.same_new h6 (.tup [V.ref c2, vr])
      refine ⟨c1, t6, _, _, rfl, rfl, sqT_mono (n1.trans (n2.trans (n3.trans (n4.trans (n5.trans (m6.trans n6)))))) hc1, SqT.of upd_same, by show 4 + 2 ≤ sizeLine; decide, fun c3 H8 m8 hc3 => ?_⟩
      have m08 := m06.trans (n6.trans m8)
      have ac8 := ac.grow m08
      refine ⟨us, ac8.l, big' _ (by omega), us ++ [.ref c3], ?_⟩
      rw [take_more ep, List.map_append, List.map_append]
      refine ac8.add (d := (Pr.af p).d) (pr6_mk (p := Pr.af p) hc3 (dp_mono m08 _ _ dl) ?_ (dp_mono m08 _ _ dr)) (Pr.nol _)
      show Dp K H8 (.ref c2) (.tuple (Blk.cons afS p.block).ds)
      rw [show (Blk.cons afS p.block).ds = afS.d :: p.block.ds from by rw [Blk.ds]]
      refine .tup (sqT_mono (n6.trans m8) hc2) (.cons ?_ (dp_monoAll m08 _ _ dbs))
      have k5 := n5.trans (m6.trans (n6.trans m8))
      have k4 := n4.trans k5
      have k3 := n3.trans k4
      have k2 := n2.trans k3
      unfold afS Stm.d
      refine .tup (sqT_mono k5 (SqT.of upd_same)) (.cons (.str _) (.cons ?_ .nil))
      rw [show (Blk.cons (.lt "a" (.num 1)) .nil).ds = [(Stm.lt "a" (.num 1)).d] from by rw [Blk.ds, Blk.ds]]
      refine .tup (sqT_mono k4 (SqT.of upd_same)) (.cons ?_ .nil)
      unfold Stm.d
      refine .tup (sqT_mono k3 (SqT.of upd_same)) (.cons (.str _) (.cons (.str _) (.cons ?_ .nil)))
      exact .tup (sqT_mono k2 (SqT.of upd_same)) (.cons (.str _) (.cons (.int _) .nil))
    rintro H4 ⟨us, ac⟩
    rw [lps, List.take_length] at ac
    refine gn ?_
    refine ⟨_, rfl, _, rfl, ga, _, rfl, sqT_mono ac.s hg, fun c1 H5 m5 hc1 => ?_⟩
    have ac5 := ac.grow m5
    refine ⟨_, rfl, D, us, rfl, .inl ⟨SqL.of ac5.l, fun tl htl => ⟨big 1 (by decide), fun t ht => ?_⟩⟩⟩
    have n1 := Gm.same_new htl (.tup us)
    have n2 := Gm.same_new ht (.tup [V.ref tl])
    have hc1 : SqT K H5 c1 [v0, v1, v2] := hc1
    refine ⟨c1, t, _, _, rfl, rfl, sqT_mono (n1.trans n2) hc1, SqT.of upd_same, by show 3 + 1 ≤ sizeLine; decide, fun c2 H8 m8 hc2 => ?_⟩
    have hc2 : SqT K H8 c2 [v0, v1, v2, .ref tl] := hc2
    have mm := ac5.s.trans (n1.trans (n2.trans m8))
    refine gn ?_
    refine k _ _ ⟨_, .ref c2, Ga.af G0, _, _, rfl, s3.trans mm, ?_, GdU.af gd0 tot0⟩
    show Dp K H8 (.ref c2) (.tuple [trips G0.vars, trips G0.tabs, trips G0.lots, .tuple ((G0.procs.map Pr.af).map Pr.d)])
    exact .tup hc2 (.cons (dp_mono mm _ _ d0) (.cons (dp_mono mm _ _ d1) (.cons (dp_mono mm _ _ d2) (.cons (dp_mono (n2.trans m8) _ _ (dp_tup htl ac5.d)) .nil))))
  rintro σ H3 ⟨av, gv, G, y3, y4, rfl, s3, dG, gd⟩
  have tb3 := tabs_same tb s3
  clear tb hS
  obtain ⟨ga, v0, v1, v2, v3, rfl, hg, d0, d1, d2, d3⟩ := four_inv (id dG)
  have sG : SzU G := .of gd.sz
  refine sa_i (mk_rd (K := K) (i := 2) (by rfl) hg (ix_rd (i := 2) (by rfl) hg) d0 d1 d2 d3 fun g1 H4 m4 gm1 => ?_)
  refine gn ?_
  refine sa_i (mk_rd (K := K) (i := 2) (by rfl) (sqT_mono m4 hg) (ix_rd (i := 2) (by rfl) (sqT_mono m4 hg)) (dp_mono m4 _ _ d0) (dp_mono m4 _ _ d1) (dp_mono m4 _ _ d2) (dp_mono m4 _ _ d3) fun g2 H5 m5 gm2 => ?_)
  refine gn ?_
  have m45 := m4.trans m5
  have gm1 := gm1.same m5
  obtain ⟨x1, f1, o1⟩ := gm_at gm1
  obtain ⟨x2, f2, o2⟩ := gm_at gm2
  refine ⟨_, rfl, _, rfl, g1, g2, x1, x2, f1, f2, rfl, rfl, o1, o2, g1, g2, G, G, 6, 6, 6, 6, rfl, gm1, gm2, sG.f, sG.f, by decide, by decide, fun b1 hb1 => ?_⟩
  have hb1 := hb1.mpr rfl
  subst hb1
  refine ⟨_, rfl, _, rfl, g1, g2, G, G, rfl, gm1, gm2, sG, sG, tabs_same tb3 m45, fun b2 H6 hb2 m6 tb6 => ?_⟩
  have hb2 := hb2.mpr rfl
  subst hb2
  refine ⟨big 2 (by decide), fun L hL => ⟨big 2 (by decide), fun L2 hL2 => ?_⟩⟩
  have n1 := Gm.same_new hL (.lst [V.bl true, .bl true])
  have n2 := Gm.same_new hL2 (.lst [V.bl true, .bl true])
  refine ⟨L, L2, [true, true], rfl, n2 _ _ upd_same, upd_same, by decide, _, rfl, iteF2 (by simp) ?_⟩
  have mo := (Mo.of m45).trans (m6.trans (Mo.of (n1.trans n2)))
  have tb7 := tabs_same tb6 (n1.trans n2)
  have gm1 := gm1.mo (m6.trans (Mo.of (n1.trans n2)))
  revert mo tb7 gm1
  generalize upd (upd H6 L (.lst [V.bl true, .bl true])) L2 (.lst [V.bl true, .bl true]) = H7
  intro mo tb7 gm1
  have dG := dp_mo mo _ _ dG
  have hg := sqT_mo mo hg
  have d0 := dp_mo mo _ _ d0
  have d1 := dp_mo mo _ _ d1
  have d2 := dp_mo mo _ _ d2
  have d3 := dp_mo mo _ _ d3
  clear n1 n2 hL hL2 m45 m6 m5 m4 gm2 tb3 tb6 mo o1 o2
  refine ⟨_, rfl, _, G, rfl, dG, gd, fun l1 xs1 Fs1 H8 m8 nl1 e1 dx1 go1 n1 => ?_⟩
  refine ⟨_, rfl, _, G, rfl, dp_mono m8 _ _ dG, gd, fun l2 xs2 Fs2 H9 m9 nl2 e2 dx2 go2 n2 => ?_⟩
  refine ⟨l1, l2, xs1, xs2, rfl, rfl, m9 _ _ e1, e2, big _ (by omega), fun p hp => ?_⟩
  have n3 := Gm.same_new hp (.lst (xs1 ++ xs2))
  have ep : upd H9 p (.lst (xs1 ++ xs2)) p = some (.lst (xs1 ++ xs2)) := upd_same
  have dxs : DpAll K (upd H9 p (.lst (xs1 ++ xs2))) (xs1 ++ xs2) ((Fs1 ++ Fs2).map Ga.d) := by
    rw [List.map_append]
    exact DpAll.app (dp_monoAll (m9.trans n3) _ _ dx1) (dp_monoAll n3 _ _ dx2)
  have go : Gos G (Fs1 ++ Fs2) := fun F hF => (List.mem_append.mp hF).elim (go1 F) (go2 F)
  have m79 := m8.trans (m9.trans n3)
  have dG := dp_mono m79 _ _ dG
  have hg := sqT_mono m79 hg
  have d0 := dp_mono m79 _ _ d0
  have d1 := dp_mono m79 _ _ d1
  have d2 := dp_mono m79 _ _ d2
  have d3 := dp_mono m79 _ _ d3
  have gm1 := gm1.same m79
  have tb7 := tabs_same tb7 m79
  revert ep dxs dG hg d0 d1 d2 d3 gm1 tb7
  generalize upd H9 p (.lst (xs1 ++ xs2)) = HA
  intro ep dxs dG hg d0 d1 d2 d3 gm1 tb7
  clear n3 m79 m8 m9 e1 e2 dx1 dx2 go1 go2 n1 n2 nl1 nl2 hp
  revert ep dxs
  generalize xs1 ++ xs2 = xs
  intro ep dxs
  revert go dxs
  generalize Fs1 ++ Fs2 = Fs
  intro go dxs
  have sh : ∀ {F : Ga}, GaF 6 6 F → SeqAt.shaped F.d = true := fun h => h.fit.shaped (by decide)
  refine ⟨p, rfl, ⟨_, SqL.of ep⟩, ?_⟩
  refine for_list (K := K) (a := p) (xs := xs) (fun i σ H' => ∃ y7 y8, σ = [some (.ref sa), some av, some (.ref ga), y3, y4, some (.ref g1), some (.ref g2), y7, y8] ∧ Mo HA H' ∧ TabsN (tbs T) H') ⟨_, _, rfl, Mo.refl _, tb7⟩ (fun i σ H' _ ⟨_, _, _, mo, _⟩ => SqL.of (mo _ _ ep (fun _ z => (nomatch z)) (fun _ _ z => (nomatch z)))) ?_ ?_
  · rintro i x σ H1 hx ⟨y7, y8, rfl, mo, tb1⟩
    have hi := (List.getElem?_eq_some_iff.mp hx).1
    have lf : xs.length = Fs.length := (DpAll.len dxs).trans (List.length_map _)
    obtain ⟨F, eF⟩ : ∃ F, Fs[i]? = some F := ⟨Fs[i]'(lf ▸ hi), List.getElem?_eq_getElem _⟩
    obtain ⟨x', ex, dF⟩ := DpAll.get dxs (show (Fs.map Ga.d)[i]? = some F.d by rw [List.getElem?_map, eF]; rfl)
    rw [hx] at ex
    cases ex
    have gF := go F (List.mem_of_getElem? eF)
    have dF := dp_mo mo _ _ dF
    refine gn ?_
    refine ⟨_, rfl, _, rfl, F.d, G.d, dF, dp_mo mo _ _ dG, sh gF.z.f, sh sG.f, _, rfl, ite2 (fun c => ?_) (fun c => ⟨_, _, rfl, mo, tb1⟩)⟩
    have nF : F ≠ G := fun z => by
      rw [z, (eqv_iff sG.f.fit.1 sG.f.fit.1).mpr rfl] at c
      exact Bool.noConfusion c
    have un : F.ub ≠ G.ub := gF.u.resolve_left nF
    have sF : SzU F := .of gF.z
    obtain ⟨fa, w0, w1, w2, w3, rfl, hf, k0, k1, k2, k3⟩ := four_inv dF
    refine sa_i (mk_rd (K := K) (i := 7) (by rfl) hf (ix_rd (i := 7) (by rfl) hf) k0 k1 k2 k3 fun g3 H2 m2 gm3 => ?_)
    refine gn ?_
    have gm1 := (gm1.mo mo).same m2
    obtain ⟨x1, f1, o1⟩ := gm_at gm1
    obtain ⟨x2, f2, o2⟩ := gm_at gm3
    refine ⟨_, rfl, _, rfl, g1, g3, x1, x2, f1, f2, rfl, rfl, o1, o2, g1, g3, G, F, 6, 6, 6, 6, rfl, gm1, gm3, sG.f, sF.f, by decide, by decide, fun b1 hb1 => ?_⟩
    refine ⟨_, rfl, _, rfl, g3, g1, x2, x1, f2, f1, rfl, rfl, o2, o1, g3, g1, F, G, 6, 6, 6, 6, rfl, gm3, gm1, sF.f, sG.f, by decide, by decide, fun b2 hb2 => ?_⟩
    refine ⟨_, rfl, _, rfl, g1, g3, G, F, rfl, gm1, gm3, sG, sF, tabs_same tb1 m2, fun b3 H3 hb3 m3 tb3 => ?_⟩
    have gm1 := gm1.mo m3
    have gm3 := gm3.mo m3
    refine ⟨_, rfl, _, rfl, g3, g1, F, G, rfl, gm3, gm1, sF, sG, tb3, fun b4 H4 hb4 m4 tb4 => ?_⟩
    have c1 := bool_no hb1 fun z => nF z.symm
    have c2 := bool_no hb2 nF
    have c3 := bool_no hb3 fun z => un z.symm
    have c4 := bool_no hb4 un
    subst c1 c2 c3 c4
    refine ⟨big 4 (by decide), fun L hL => ⟨big 1 (by decide), fun L2 hL2 => ?_⟩⟩
    refine ⟨L2, 4, _, rfl, rfl, upd_same, by decide, by decide, by show 1 * 4 ≤ sizeLine; decide, fun L3 hL3 => ?_⟩
    have n1 := Gm.same_new hL (.lst [V.bl false, .bl false, .bl false, .bl false])
    have n2 := Gm.same_new hL2 (.lst [V.bl false])
    have n3 := Gm.same_new hL3 (.lst [V.bl false, .bl false, .bl false, .bl false])
    have n13 := n1.trans (n2.trans n3)
    refine ⟨L, L3, [false, false, false, false], rfl, n3 _ _ (n2 _ _ upd_same), upd_same, by decide, _, rfl, iteF2 (by simp) ?_⟩
    have gm1 := (gm1.mo m4).same n13
    have gm3 := (gm3.mo m4).same n13
    refine ⟨_, rfl, _, rfl, g1, g3, G, F, rfl, gm1, gm3, sG, sF, fun z => un z.symm, tabs_same tb4 n13, fun H5 m5 tb5 => ⟨_, rfl, iteF2 (by simp) ?_⟩⟩
    exact ⟨_, _, rfl, mo.trans ((Mo.of m2).trans (m3.trans (m4.trans ((Mo.of n13).trans m5)))), tb5⟩
  rintro σ H1 ⟨y7, y8, rfl, mo, tb1⟩
  have dG := dp_mo mo _ _ dG
  have hg := sqT_mo mo hg
  have d0 := dp_mo mo _ _ d0
  have d1 := dp_mo mo _ _ d1
  have d2 := dp_mo mo _ _ d2
  have d3 := dp_mo mo _ _ d3
  have gm1 := gm1.mo mo
  clear mo ep dxs go tb7
  obtain ⟨pa, ps, rfl, hpa, dps⟩ := dp_inv (id d3)
  have lps : ps.length = G.procs.length := (DpAll.len dps).trans (List.length_map _)
  have lp2 := gd.pl
  refine ⟨_, rfl, ga, _, 3, _, rfl, rfl, hg, atI_nat (j := 3) rfl, pa, rfl, ⟨_, hpa⟩, fun D hD => ?_⟩
  refine lc_tup (K := K) (a := pa) (xs := ps) (fun i H' => ∃ us, Acc K H1 H' D us (((G.procs.take i).map Pr.wn).map Pr.d)) ⟨[], Acc.start hD⟩ (fun i H' _ ⟨_, ac⟩ => sqT_mono ac.s hpa) ?_ ?_
  · rintro i x H' hx ⟨us, ac⟩
    have hi := (List.getElem?_eq_some_iff.mp hx).1
    obtain ⟨p, ep⟩ : ∃ p, G.procs[i]? = some p := ⟨G.procs[i]'(lps ▸ hi), List.getElem?_eq_getElem _⟩
    obtain ⟨x', ex, dp⟩ := DpAll.get dps (show (G.procs.map Pr.d)[i]? = some p.d by rw [List.getElem?_map, ep]; rfl)
    rw [hx] at ex
    cases ex
    have hm := List.mem_of_getElem? ep
    obtain ⟨ra, vl, vb, vr, rfl, hra, dl, db, dr⟩ := pr6 (dp_mono ac.s _ _ dp)
    have lus : us.length ≤ 100 := by
      have := ac.len
      rw [List.length_map, List.length_map, List.length_take] at this
      omega
    have tp := (gd.pr p hm).2.2.2.2.2.2.1
    refine ⟨rfl, _, rfl, _, rfl, ra, _, rfl, hra, fun c1 H4 m4 hc1 => ?_⟩
    refine ⟨_, rfl, ra, _, 4, _, rfl, rfl, sqT_mono m4 hra, atI_nat (j := 4) rfl, vb, p.block, rfl, dp_mono m4 _ _ db, by omega, fun ub H5 m5 dub => ?_⟩
    have m45 := m4.trans m5
    refine ⟨_, rfl, ra, _, 5, _, rfl, rfl, sqT_mono m45 hra, atI_nat (j := 5) rfl, big 2 (by decide), fun t6 h6 => ?_⟩
    have n6 := Gm.same_new h6 (.tup [ub, vr])
    refine ⟨c1, t6, _, _, rfl, rfl, sqT_mono (m5.trans n6) hc1, SqT.of upd_same, by show 4 + 2 ≤ sizeLine; decide, fun c3 H8 m8 hc3 => ?_⟩
    have m08 := m45.trans (n6.trans m8)
    have ac8 := ac.grow m08
    refine ⟨us, ac8.l, big' _ (by omega), us ++ [.ref c3], ?_⟩
    rw [take_more ep, List.map_append, List.map_append]
    exact ac8.add (d := p.wn.d) (pr6_mk (p := p.wn) hc3 (dp_mono m08 _ _ dl) (dp_mono (n6.trans m8) _ _ dub) (dp_mono m08 _ _ dr)) (Pr.nol _)
  rintro H4 ⟨us, ac⟩
  rw [lps, List.take_length] at ac
  refine ⟨D, us, rfl, .inl ⟨SqL.of ac.l, fun tl htl => ?_⟩⟩
  have n1 := Gm.same_new htl (.tup us)
  have dW : Dp K (upd H4 tl (.tup us)) (.ref tl) (.tuple (G.wn.procs.map Pr.d)) := dp_tup htl ac.d
  have m4 := ac.s.trans n1
  revert dW m4
  generalize upd H4 tl (.tup us) = H5
  intro dW m4
  clear n1 htl ac
  refine gn ?_
  have hg := sqT_mono m4 hg
  have d0 := dp_mono m4 _ _ d0
  have d1 := dp_mono m4 _ _ d1
  have d2 := dp_mono m4 _ _ d2
  have d3 := dp_mono m4 _ _ d3
  have gm1 := gm1.same m4
  have tb5 := tabs_same tb1 m4
  obtain ⟨wub, wsz⟩ := gd.wn
  have sW : SzU G.wn := .of wsz
  refine sa_i (mk_rd (K := K) (i := 2) (G := G.wn) (by rfl) hg (fun Q' q => ⟨_, rfl, q⟩) d0 d1 d2 dW fun g3 H6 m6 gm3 => ?_)
  refine gn ?_
  have gm1 := gm1.same m6
  refine ⟨_, rfl, _, rfl, g1, g3, G, G.wn, rfl, gm1, gm3, sG, sW, tabs_same tb5 m6, fun b1 H7 hb1 m7 tb7 => ?_⟩
  have gm1 := gm1.mo m7
  have gm3 := gm3.mo m7
  refine ⟨_, rfl, _, rfl, g3, g1, G.wn, G, rfl, gm3, gm1, sW, sG, tb7, fun b2 H8 hb2 m8 tb8 => ?_⟩
  have hb1 := hb1.mpr wub.symm
  have hb2 := hb2.mpr wub
  subst hb1 hb2
  refine ⟨big 2 (by decide), fun L hL => ⟨big 2 (by decide), fun L2 hL2 => ?_⟩⟩
  have n1 := Gm.same_new hL (.lst [V.bl true, .bl true])
  have n2 := Gm.same_new hL2 (.lst [V.bl true, .bl true])
  refine ⟨L, L2, [true, true], rfl, n2 _ _ upd_same, upd_same, by decide, _, rfl, iteF2 (by simp) ?_⟩
  have gm1 := (gm1.mo m8).same (n1.trans n2)
  have gm3 := (gm3.mo m8).same (n1.trans n2)
  have mo := (Mo.of m6).trans (m7.trans (m8.trans (Mo.of (n1.trans n2))))
  have hg := sqT_mo mo hg
  have d3 := dp_mo mo _ _ d3
  have dW := dp_mo mo _ _ dW
  revert gm1 gm3 hg d3 dW
  generalize upd (upd H8 L (.lst [V.bl true, .bl true])) L2 (.lst [V.bl true, .bl true]) = H9
  intro gm1 gm3 hg d3 dW
  obtain ⟨x1, f1, o1⟩ := gm_at gm1
  obtain ⟨x2, f2, o2⟩ := gm_at gm3
  refine ⟨_, rfl, _, rfl, g1, g3, x1, x2, f1, f2, rfl, rfl, o1, o2, g1, g3, G, G.wn, 6, 6, 6, 6, rfl, gm1, gm3, sG.f, sW.f, by decide, by decide, fun b1 hb1 => ?_⟩
  refine ⟨_, rfl, _, rfl, g3, g1, x2, x1, f2, f1, rfl, rfl, o2, o1, g3, g1, G.wn, G, 6, 6, 6, 6, rfl, gm3, gm1, sW.f, sG.f, by decide, by decide, fun b2 hb2 => ?_⟩
  have pW := fit_procs (k := 6) (d := 6) sW.f.procs
  have pG := fit_procs (k := 6) (d := 6) sG.f.procs
  have hc : PyData.eqv (.tuple (G.wn.procs.map Pr.d)) (.tuple (G.procs.map Pr.d)) = true ↔ G.wn = G :=
    (eqv_iff pW.1 pG.1).trans ⟨fun z => Ga.ext rfl rfl rfl (procs_inj z), fun z => by rw [z]⟩
  have eb : ∀ {x y : Bool} {p : Prop}, (x = true ↔ p) → (y = true ↔ p) → x = y := fun h1 h2 => Bool.eq_iff_iff.mpr (h1.trans h2.symm)
  have c1 := eb (hb1.trans ⟨Eq.symm, Eq.symm⟩) hc
  have c2 := eb hb2 hc
  subst c1 c2
  refine ⟨big 2 (by decide), fun L hL => ?_⟩
  have n1 := Gm.same_new hL (.lst [V.bl (PyData.eqv (.tuple (G.wn.procs.map Pr.d)) (.tuple (G.procs.map Pr.d))), .bl (PyData.eqv (.tuple (G.wn.procs.map Pr.d)) (.tuple (G.procs.map Pr.d)))])
  have hW := pW.shaped (by decide)
  have hG := pG.shaped (by decide)
  refine ⟨_, rfl, _, rfl, ga, _, 3, _, rfl, rfl, sqT_mono n1 hg, atI_nat (j := 3) rfl, _, _, dp_mono n1 _ _ dW, dp_mono n1 _ _ d3, hW, hG, ?_⟩
  refine ⟨_, rfl, _, rfl, ga, _, 3, _, rfl, rfl, sqT_mono n1 hg, atI_nat (j := 3) rfl, _, _, dp_mono n1 _ _ dW, dp_mono n1 _ _ d3, hW, hG, ?_⟩
  refine ⟨big 2 (by decide), fun L2 hL2 => ?_⟩
  have n2 := Gm.same_new hL2 (.lst [V.bl (PyData.eqv (.tuple (G.wn.procs.map Pr.d)) (.tuple (G.procs.map Pr.d))), .bl (PyData.eqv (.tuple (G.wn.procs.map Pr.d)) (.tuple (G.procs.map Pr.d)))])
  exact ⟨L, L2, [PyData.eqv (.tuple (G.wn.procs.map Pr.d)) (.tuple (G.procs.map Pr.d)), PyData.eqv (.tuple (G.wn.procs.map Pr.d)) (.tuple (G.procs.map Pr.d))], rfl, n2 _ _ upd_same, upd_same, by show 2 ≤ 100; decide, q _⟩
end
end Toy
set_option Elab.async false
set_option linter.all false
set_option maxRecDepth 100000
set_option maxHeartbeats 0
namespace Toy
open PySem L2 NdefX Gm
open Mine hiding same_new
theorem fin_law {P : Program} {w : World} {K : PySem.W.Frag} {mg : Str → Option Value} {file : Str} (hP : PrF P file) (T : Txt K mg file) :
    ∃ sp : Sp, (∀ (H : Hp) (a : Addr) (ns : List Int), ns.length ≤ 63 → (∀ p ∈ ([(T.cda_until_bad, T.tb_until_bad)] : List (Addr × Addr)), H p.2 = some (.tbl #[])) → SqL K H a (ns.map V.int) → sp [.ref a] H (fun v _ => v = .bl true) fun _ _ _ => False) ∧
      ∀ base : Heap, K.In base → base.Ns mainGlobals mg → (∀ p ∈ ([(T.cda_until_bad, T.tb_until_bad)] : List (Addr × Addr)), LamX.TabB base mg p.1 p.2) → FnOk P w K mg base CX0 60 T.a_law T.fd_law ["script"] sp := by
  refine ⟨spLaw K T, fun H a ns hl hT hS => ⟨a, ns, rfl, hS, hl, fun p hp => ?_, fun _ => rfl⟩, fun base _ _ hB => ok_law hP T ⟨hB _ (List.mem_cons_self ..)⟩⟩
  unfold tbs at hp
  rw [List.mem_singleton.mp hp]
  exact TabN.nil (hT _ (List.mem_cons_self ..))
/-! ### the program's top -/
theorem all_mk {l : PySem.W.OpenLaw} {w : World} {K : PySem.W.Frag} {h : Heap} {mg : Str → Option Value} {fa : Addr} (X : K.In h) (G : h.Ns mainGlobals mg) (hfa : mg "law" = some (.ref fa))
    {C_Ratio : Addr}
    {C_Bound : Addr}
    {C_Game : Addr}
    {C_Derivation : Addr}
    {od_Ratio_init an_Ratio_init : Option Addr} {sl_Ratio_init : Array (Option Value)} {oc_Ratio_init kV_Ratio_init dc_Ratio_init pm_Ratio_init cd_Ratio_init ct_Ratio_init : Value} {a_Ratio_init : Addr} {dT_Ratio_init : Addr} {dc2_Ratio_init : Value} {dd2_Ratio_init : Option Addr} {dn_Ratio_init : Nat} {dsl_Ratio_init : Array (Option Value)} {tk0_Ratio_init : PySem.Tok}
    {od_Bound_init an_Bound_init : Option Addr} {sl_Bound_init : Array (Option Value)} {oc_Bound_init kV_Bound_init dc_Bound_init pm_Bound_init cd_Bound_init ct_Bound_init : Value} {a_Bound_init : Addr} {dT_Bound_init : Addr} {dc2_Bound_init : Value} {dd2_Bound_init : Option Addr} {dn_Bound_init : Nat} {dsl_Bound_init : Array (Option Value)}
    {od_nothing an_nothing : Option Addr} {sl_nothing : Array (Option Value)} {oc_nothing kV_nothing dc_nothing pm_nothing cd_nothing ct_nothing : Value} {a_nothing : Addr}
    {od_Game_init an_Game_init : Option Addr} {sl_Game_init : Array (Option Value)} {oc_Game_init kV_Game_init dc_Game_init pm_Game_init cd_Game_init ct_Game_init : Value} {a_Game_init : Addr}
    {od_Game_eq an_Game_eq : Option Addr} {sl_Game_eq : Array (Option Value)} {oc_Game_eq kV_Game_eq dc_Game_eq pm_Game_eq cd_Game_eq ct_Game_eq : Value} {a_Game_eq : Addr}
    {od_changed_block an_changed_block : Option Addr} {sl_changed_block : Array (Option Value)} {oc_changed_block kV_changed_block dc_changed_block pm_changed_block cd_changed_block ct_changed_block : Value} {a_changed_block : Addr}
    {od_with_changed_blocks an_with_changed_blocks : Option Addr} {sl_with_changed_blocks : Array (Option Value)} {oc_with_changed_blocks kV_with_changed_blocks dc_with_changed_blocks pm_with_changed_blocks cd_with_changed_blocks ct_with_changed_blocks : Value} {a_with_changed_blocks : Addr}
    {od_with_changed_statements an_with_changed_statements : Option Addr} {sl_with_changed_statements : Array (Option Value)} {oc_with_changed_statements kV_with_changed_statements dc_with_changed_statements pm_with_changed_statements cd_with_changed_statements ct_with_changed_statements : Value} {a_with_changed_statements : Addr}
    {od_without_inner an_without_inner : Option Addr} {sl_without_inner : Array (Option Value)} {oc_without_inner kV_without_inner dc_without_inner pm_without_inner cd_without_inner ct_without_inner : Value} {a_without_inner : Addr}
    {od_until_bad an_until_bad : Option Addr} {sl_until_bad : Array (Option Value)} {oc_until_bad kV_until_bad dc_until_bad pm_until_bad cd_until_bad ct_until_bad : Value} {a_until_bad : Addr}
    {od_alike an_alike : Option Addr} {sl_alike : Array (Option Value)} {oc_alike kV_alike dc_alike pm_alike cd_alike ct_alike : Value} {a_alike : Addr}
    {od_Derivation_init an_Derivation_init : Option Addr} {sl_Derivation_init : Array (Option Value)} {oc_Derivation_init kV_Derivation_init dc_Derivation_init pm_Derivation_init cd_Derivation_init ct_Derivation_init : Value} {a_Derivation_init : Addr}
    {od_Derivation_step an_Derivation_step : Option Addr} {sl_Derivation_step : Array (Option Value)} {oc_Derivation_step kV_Derivation_step dc_Derivation_step pm_Derivation_step cd_Derivation_step ct_Derivation_step : Value} {a_Derivation_step : Addr}
    {od_behind an_behind : Option Addr} {sl_behind : Array (Option Value)} {oc_behind kV_behind dc_behind pm_behind cd_behind ct_behind : Value} {a_behind : Addr}
    {od_behind_until an_behind_until : Option Addr} {sl_behind_until : Array (Option Value)} {oc_behind_until kV_behind_until dc_behind_until pm_behind_until cd_behind_until ct_behind_until : Value} {a_behind_until : Addr}
    {od_law_pool an_law_pool : Option Addr} {sl_law_pool : Array (Option Value)} {oc_law_pool kV_law_pool dc_law_pool pm_law_pool cd_law_pool ct_law_pool : Value} {a_law_pool : Addr}
    {od_law_draw an_law_draw : Option Addr} {sl_law_draw : Array (Option Value)} {oc_law_draw kV_law_draw dc_law_draw pm_law_draw cd_law_draw ct_law_draw : Value} {a_law_draw : Addr}
    {od_law_spend an_law_spend : Option Addr} {sl_law_spend : Array (Option Value)} {oc_law_spend kV_law_spend dc_law_spend pm_law_spend cd_law_spend ct_law_spend : Value} {a_law_spend : Addr}
    {od_law_number an_law_number : Option Addr} {sl_law_number : Array (Option Value)} {oc_law_number kV_law_number dc_law_number pm_law_number cd_law_number ct_law_number : Value} {a_law_number : Addr}
    {od_law_same an_law_same : Option Addr} {sl_law_same : Array (Option Value)} {oc_law_same kV_law_same dc_law_same pm_law_same cd_law_same ct_law_same : Value} {a_law_same : Addr}
    {od_law_expression an_law_expression : Option Addr} {sl_law_expression : Array (Option Value)} {oc_law_expression kV_law_expression dc_law_expression pm_law_expression cd_law_expression ct_law_expression : Value} {a_law_expression : Addr}
    {od_law_statement an_law_statement : Option Addr} {sl_law_statement : Array (Option Value)} {oc_law_statement kV_law_statement dc_law_statement pm_law_statement cd_law_statement ct_law_statement : Value} {a_law_statement : Addr}
    {od_law_block an_law_block : Option Addr} {sl_law_block : Array (Option Value)} {oc_law_block kV_law_block dc_law_block pm_law_block cd_law_block ct_law_block : Value} {a_law_block : Addr}
    {od_law_game an_law_game : Option Addr} {sl_law_game : Array (Option Value)} {oc_law_game kV_law_game dc_law_game pm_law_game cd_law_game ct_law_game : Value} {a_law_game : Addr}
    {od_law_value_named an_law_value_named : Option Addr} {sl_law_value_named : Array (Option Value)} {oc_law_value_named kV_law_value_named dc_law_value_named pm_law_value_named cd_law_value_named ct_law_value_named : Value} {a_law_value_named : Addr}
    {od_law_block_named an_law_block_named : Option Addr} {sl_law_block_named : Array (Option Value)} {oc_law_block_named kV_law_block_named dc_law_block_named pm_law_block_named cd_law_block_named ct_law_block_named : Value} {a_law_block_named : Addr}
    {od_law_named an_law_named : Option Addr} {sl_law_named : Array (Option Value)} {oc_law_named kV_law_named dc_law_named pm_law_named cd_law_named ct_law_named : Value} {a_law_named : Addr}
    {od_law_rows an_law_rows : Option Addr} {sl_law_rows : Array (Option Value)} {oc_law_rows kV_law_rows dc_law_rows pm_law_rows cd_law_rows ct_law_rows : Value} {a_law_rows : Addr}
    {od_law_procs an_law_procs : Option Addr} {sl_law_procs : Array (Option Value)} {oc_law_procs kV_law_procs dc_law_procs pm_law_procs cd_law_procs ct_law_procs : Value} {a_law_procs : Addr}
    {od_law_within an_law_within : Option Addr} {sl_law_within : Array (Option Value)} {oc_law_within kV_law_within dc_law_within pm_law_within cd_law_within ct_law_within : Value} {a_law_within : Addr}
    {od_law_until an_law_until : Option Addr} {sl_law_until : Array (Option Value)} {oc_law_until kV_law_until dc_law_until pm_law_until cd_law_until ct_law_until : Value} {a_law_until : Addr}
    {od_law an_law : Option Addr} {sl_law : Array (Option Value)} {oc_law kV_law dc_law pm_law cd_law ct_law : Value} {a_law : Addr}
    {C_BadStep : Addr}
    {od_BadStep_init an_BadStep_init : Option Addr} {sl_BadStep_init : Array (Option Value)} {oc_BadStep_init kV_BadStep_init dc_BadStep_init pm_BadStep_init ct_BadStep_init : Value} {a_BadStep_init cda_BadStep_init cc_BadStep_init : Addr} {ccl_BadStep_init cl_BadStep_init : Value} {cdd_BadStep_init cld_BadStep_init : Option Addr} {ccs_BadStep_init csl_BadStep_init : Array (Option Value)} {vs_BadStep_init : Array Value} {tf_BadStep_init : PySem.Tok}
    {nm_BadStep_init q_BadStep_init : Str} {N_BadStep_init : Addr} {bs_BadStep_init bm_BadStep_init : List Value} {sn_BadStep_init : List Str} {sub_BadStep_init : List Value} {ab_BadStep_init : Bool} {col_BadStep_init : Option Bool} {dd_BadStep_init : Option Addr} {k0_BadStep_init k1_BadStep_init k2_BadStep_init k3_BadStep_init k5_BadStep_init : Option Value}
    {file : Str}
    {C_BadBound : Addr}
    {cda_until_bad tb_until_bad : Addr}
    (o_n : PySem.W.specialIn K (.builtin "object.__class__") "__get__" = some (some (.builtin "getset_descriptor.__get__")))
    (o_t : PySem.W.takesIn K (.builtin "object.__class__") = some true)
    (hC_Ratio : PySem.W.nsIn K mainGlobals "Ratio" = some (some (.ref C_Ratio)))
    (pg_Ratio : PySem.W.plainGet K C_Ratio Str.empty = true)
    (hd_Ratio : PySem.W.hasDictIn K C_Ratio = true)
    (po_Ratio : PySem.W.plainOver K C_Ratio = true)
    (sa_Ratio : PySem.W.findIn K (.ref C_Ratio) "__setattr__" = some (some (.builtin "object.__setattr__")))
    (mk_Ratio : PySem.W.makesIn K C_Ratio = true)
    (kc_Ratio : PySem.W.keepIn K (.ref C_Ratio) = true)
    (sf_Ratio : PySem.W.selfFirst K C_Ratio = true)
    (na_Ratio_num : PySem.W.findIn K (.ref C_Ratio) "num" = some none)
    (na_Ratio_den : PySem.W.findIn K (.ref C_Ratio) "den" = some none)
    (hC_Bound : PySem.W.nsIn K mainGlobals "Bound" = some (some (.ref C_Bound)))
    (pg_Bound : PySem.W.plainGet K C_Bound Str.empty = true)
    (hd_Bound : PySem.W.hasDictIn K C_Bound = true)
    (po_Bound : PySem.W.plainOver K C_Bound = true)
    (sa_Bound : PySem.W.findIn K (.ref C_Bound) "__setattr__" = some (some (.builtin "object.__setattr__")))
    (mk_Bound : PySem.W.makesIn K C_Bound = true)
    (kc_Bound : PySem.W.keepIn K (.ref C_Bound) = true)
    (sf_Bound : PySem.W.selfFirst K C_Bound = true)
    (na_Bound_flat : PySem.W.findIn K (.ref C_Bound) "flat" = some none)
    (na_Bound_first : PySem.W.findIn K (.ref C_Bound) "first" = some none)
    (na_Bound_more : PySem.W.findIn K (.ref C_Bound) "more" = some none)
    (na_Bound_limit : PySem.W.findIn K (.ref C_Bound) "limit" = some none)
    (hC_Game : PySem.W.nsIn K mainGlobals "Game" = some (some (.ref C_Game)))
    (pg_Game : PySem.W.plainGet K C_Game Str.empty = true)
    (hd_Game : PySem.W.hasDictIn K C_Game = true)
    (po_Game : PySem.W.plainOver K C_Game = true)
    (sa_Game : PySem.W.findIn K (.ref C_Game) "__setattr__" = some (some (.builtin "object.__setattr__")))
    (mk_Game : PySem.W.makesIn K C_Game = true)
    (kc_Game : PySem.W.keepIn K (.ref C_Game) = true)
    (sf_Game : PySem.W.selfFirst K C_Game = true)
    (na_Game_variables : PySem.W.findIn K (.ref C_Game) "variables" = some none)
    (na_Game_tables : PySem.W.findIn K (.ref C_Game) "tables" = some none)
    (na_Game_lots : PySem.W.findIn K (.ref C_Game) "lots" = some none)
    (na_Game_procs : PySem.W.findIn K (.ref C_Game) "procs" = some none)
    (ia_Game : PySem.W.findIn K (.ref C_Game) "__class__" = some (some (.builtin "object.__class__")))
    (im_Game : PySem.W.mroIn K C_Game (.type "object") = some true)
    (ik_Game : PySem.W.kitOne K (.ref C_Game) (.ref C_Game) = some true)
    (hC_Derivation : PySem.W.nsIn K mainGlobals "Derivation" = some (some (.ref C_Derivation)))
    (pg_Derivation : PySem.W.plainGet K C_Derivation Str.empty = true)
    (hd_Derivation : PySem.W.hasDictIn K C_Derivation = true)
    (po_Derivation : PySem.W.plainOver K C_Derivation = true)
    (sa_Derivation : PySem.W.findIn K (.ref C_Derivation) "__setattr__" = some (some (.builtin "object.__setattr__")))
    (mk_Derivation : PySem.W.makesIn K C_Derivation = true)
    (kc_Derivation : PySem.W.keepIn K (.ref C_Derivation) = true)
    (sf_Derivation : PySem.W.selfFirst K C_Derivation = true)
    (na_Derivation_first : PySem.W.findIn K (.ref C_Derivation) "first" = some none)
    (na_Derivation_last : PySem.W.findIn K (.ref C_Derivation) "last" = some none)
    (na_Derivation_bound : PySem.W.findIn K (.ref C_Derivation) "bound" = some none)
    (h_Ratio_init : PySem.W.findIn K (.ref C_Ratio) "__init__" = some (some (.ref a_Ratio_init)))
    (i_Ratio_init : PySem.W.isFn K (.ref a_Ratio_init) = true)
    (l_Ratio_init : K.lookup a_Ratio_init = some ⟨oc_Ratio_init, od_Ratio_init, .func (PySem.W.fnOf "__init__" "Ratio.__init__" (defArgs s_Ratio_init) (defBody s_Ratio_init) (defScope s_Ratio_init) (.ref dT_Ratio_init) kV_Ratio_init dc_Ratio_init pm_Ratio_init an_Ratio_init cd_Ratio_init ct_Ratio_init), sl_Ratio_init⟩)
    (dl_Ratio_init : K.lookup dT_Ratio_init = some ⟨dc2_Ratio_init, dd2_Ratio_init, .seq #[.int 1 tk0_Ratio_init] dn_Ratio_init, dsl_Ratio_init⟩)
    (c_Ratio_init : PySem.W.codeIn K cd_Ratio_init "Ratio.__init__" = true)
    (k_Ratio_init : PySem.W.keepIn K (.ref a_Ratio_init) = true)
    (h_Bound_init : PySem.W.findIn K (.ref C_Bound) "__init__" = some (some (.ref a_Bound_init)))
    (i_Bound_init : PySem.W.isFn K (.ref a_Bound_init) = true)
    (l_Bound_init : K.lookup a_Bound_init = some ⟨oc_Bound_init, od_Bound_init, .func (PySem.W.fnOf "__init__" "Bound.__init__" (defArgs s_Bound_init) (defBody s_Bound_init) (defScope s_Bound_init) (.ref dT_Bound_init) kV_Bound_init dc_Bound_init pm_Bound_init an_Bound_init cd_Bound_init ct_Bound_init), sl_Bound_init⟩)
    (dl_Bound_init : K.lookup dT_Bound_init = some ⟨dc2_Bound_init, dd2_Bound_init, .seq #[.none] dn_Bound_init, dsl_Bound_init⟩)
    (c_Bound_init : PySem.W.codeIn K cd_Bound_init "Bound.__init__" = true)
    (k_Bound_init : PySem.W.keepIn K (.ref a_Bound_init) = true)
    (h_nothing : PySem.W.nsIn K mainGlobals "nothing" = some (some (.ref a_nothing)))
    (l_nothing : K.lookup a_nothing = some ⟨oc_nothing, od_nothing, .func (PySem.W.fnOf "nothing" "nothing" (defArgs s_nothing) (defBody s_nothing) (defScope s_nothing) .none kV_nothing dc_nothing pm_nothing an_nothing cd_nothing ct_nothing), sl_nothing⟩)
    (c_nothing : PySem.W.codeIn K cd_nothing "nothing" = true)
    (k_nothing : PySem.W.keepIn K (.ref a_nothing) = true)
    (h_Game_init : PySem.W.findIn K (.ref C_Game) "__init__" = some (some (.ref a_Game_init)))
    (i_Game_init : PySem.W.isFn K (.ref a_Game_init) = true)
    (l_Game_init : K.lookup a_Game_init = some ⟨oc_Game_init, od_Game_init, .func (PySem.W.fnOf "__init__" "Game.__init__" (defArgs s_Game_init) (defBody s_Game_init) (defScope s_Game_init) .none kV_Game_init dc_Game_init pm_Game_init an_Game_init cd_Game_init ct_Game_init), sl_Game_init⟩)
    (c_Game_init : PySem.W.codeIn K cd_Game_init "Game.__init__" = true)
    (k_Game_init : PySem.W.keepIn K (.ref a_Game_init) = true)
    (h_Game_eq : PySem.W.findIn K (.ref C_Game) "__eq__" = some (some (.ref a_Game_eq)))
    (i_Game_eq : PySem.W.isFn K (.ref a_Game_eq) = true)
    (l_Game_eq : K.lookup a_Game_eq = some ⟨oc_Game_eq, od_Game_eq, .func (PySem.W.fnOf "__eq__" "Game.__eq__" (defArgs s_Game_eq) (defBody s_Game_eq) (defScope s_Game_eq) .none kV_Game_eq dc_Game_eq pm_Game_eq an_Game_eq cd_Game_eq ct_Game_eq), sl_Game_eq⟩)
    (c_Game_eq : PySem.W.codeIn K cd_Game_eq "Game.__eq__" = true)
    (k_Game_eq : PySem.W.keepIn K (.ref a_Game_eq) = true)
    (h_changed_block : PySem.W.nsIn K mainGlobals "changed_block" = some (some (.ref a_changed_block)))
    (l_changed_block : K.lookup a_changed_block = some ⟨oc_changed_block, od_changed_block, .func (PySem.W.fnOf "changed_block" "changed_block" (defArgs s_changed_block) (defBody s_changed_block) (defScope s_changed_block) .none kV_changed_block dc_changed_block pm_changed_block an_changed_block cd_changed_block ct_changed_block), sl_changed_block⟩)
    (c_changed_block : PySem.W.codeIn K cd_changed_block "changed_block" = true)
    (k_changed_block : PySem.W.keepIn K (.ref a_changed_block) = true)
    (h_with_changed_blocks : PySem.W.nsIn K mainGlobals "with_changed_blocks" = some (some (.ref a_with_changed_blocks)))
    (l_with_changed_blocks : K.lookup a_with_changed_blocks = some ⟨oc_with_changed_blocks, od_with_changed_blocks, .func (PySem.W.fnOf "with_changed_blocks" "with_changed_blocks" (defArgs s_with_changed_blocks) (defBody s_with_changed_blocks) (defScope s_with_changed_blocks) .none kV_with_changed_blocks dc_with_changed_blocks pm_with_changed_blocks an_with_changed_blocks cd_with_changed_blocks ct_with_changed_blocks), sl_with_changed_blocks⟩)
    (c_with_changed_blocks : PySem.W.codeIn K cd_with_changed_blocks "with_changed_blocks" = true)
    (k_with_changed_blocks : PySem.W.keepIn K (.ref a_with_changed_blocks) = true)
    (h_with_changed_statements : PySem.W.nsIn K mainGlobals "with_changed_statements" = some (some (.ref a_with_changed_statements)))
    (l_with_changed_statements : K.lookup a_with_changed_statements = some ⟨oc_with_changed_statements, od_with_changed_statements, .func (PySem.W.fnOf "with_changed_statements" "with_changed_statements" (defArgs s_with_changed_statements) (defBody s_with_changed_statements) (defScope s_with_changed_statements) .none kV_with_changed_statements dc_with_changed_statements pm_with_changed_statements an_with_changed_statements cd_with_changed_statements ct_with_changed_statements), sl_with_changed_statements⟩)
    (c_with_changed_statements : PySem.W.codeIn K cd_with_changed_statements "with_changed_statements" = true)
    (k_with_changed_statements : PySem.W.keepIn K (.ref a_with_changed_statements) = true)
    (h_without_inner : PySem.W.nsIn K mainGlobals "without_inner" = some (some (.ref a_without_inner)))
    (l_without_inner : K.lookup a_without_inner = some ⟨oc_without_inner, od_without_inner, .func (PySem.W.fnOf "without_inner" "without_inner" (defArgs s_without_inner) (defBody s_without_inner) (defScope s_without_inner) .none kV_without_inner dc_without_inner pm_without_inner an_without_inner cd_without_inner ct_without_inner), sl_without_inner⟩)
    (c_without_inner : PySem.W.codeIn K cd_without_inner "without_inner" = true)
    (k_without_inner : PySem.W.keepIn K (.ref a_without_inner) = true)
    (h_until_bad : PySem.W.nsIn K mainGlobals "until_bad" = some (some (.ref a_until_bad)))
    (l_until_bad : K.lookup a_until_bad = some ⟨oc_until_bad, od_until_bad, .func (PySem.W.fnOf "until_bad" "until_bad" (defArgs s_until_bad) (defBody s_until_bad) (defScope s_until_bad) .none kV_until_bad dc_until_bad pm_until_bad an_until_bad cd_until_bad ct_until_bad), sl_until_bad⟩)
    (c_until_bad : PySem.W.codeIn K cd_until_bad "until_bad" = true)
    (k_until_bad : PySem.W.keepIn K (.ref a_until_bad) = true)
    (h_alike : PySem.W.nsIn K mainGlobals "alike" = some (some (.ref a_alike)))
    (l_alike : K.lookup a_alike = some ⟨oc_alike, od_alike, .func (PySem.W.fnOf "alike" "alike" (defArgs s_alike) (defBody s_alike) (defScope s_alike) .none kV_alike dc_alike pm_alike an_alike cd_alike ct_alike), sl_alike⟩)
    (c_alike : PySem.W.codeIn K cd_alike "alike" = true)
    (k_alike : PySem.W.keepIn K (.ref a_alike) = true)
    (h_Derivation_init : PySem.W.findIn K (.ref C_Derivation) "__init__" = some (some (.ref a_Derivation_init)))
    (i_Derivation_init : PySem.W.isFn K (.ref a_Derivation_init) = true)
    (l_Derivation_init : K.lookup a_Derivation_init = some ⟨oc_Derivation_init, od_Derivation_init, .func (PySem.W.fnOf "__init__" "Derivation.__init__" (defArgs s_Derivation_init) (defBody s_Derivation_init) (defScope s_Derivation_init) .none kV_Derivation_init dc_Derivation_init pm_Derivation_init an_Derivation_init cd_Derivation_init ct_Derivation_init), sl_Derivation_init⟩)
    (c_Derivation_init : PySem.W.codeIn K cd_Derivation_init "Derivation.__init__" = true)
    (k_Derivation_init : PySem.W.keepIn K (.ref a_Derivation_init) = true)
    (h_Derivation_step : PySem.W.findIn K (.ref C_Derivation) "step" = some (some (.ref a_Derivation_step)))
    (i_Derivation_step : PySem.W.isFn K (.ref a_Derivation_step) = true)
    (l_Derivation_step : K.lookup a_Derivation_step = some ⟨oc_Derivation_step, od_Derivation_step, .func (PySem.W.fnOf "step" "Derivation.step" (defArgs s_Derivation_step) (defBody s_Derivation_step) (defScope s_Derivation_step) .none kV_Derivation_step dc_Derivation_step pm_Derivation_step an_Derivation_step cd_Derivation_step ct_Derivation_step), sl_Derivation_step⟩)
    (c_Derivation_step : PySem.W.codeIn K cd_Derivation_step "Derivation.step" = true)
    (k_Derivation_step : PySem.W.keepIn K (.ref a_Derivation_step) = true)
    (h_behind : PySem.W.nsIn K mainGlobals "behind" = some (some (.ref a_behind)))
    (l_behind : K.lookup a_behind = some ⟨oc_behind, od_behind, .func (PySem.W.fnOf "behind" "behind" (defArgs s_behind) (defBody s_behind) (defScope s_behind) .none kV_behind dc_behind pm_behind an_behind cd_behind ct_behind), sl_behind⟩)
    (c_behind : PySem.W.codeIn K cd_behind "behind" = true)
    (k_behind : PySem.W.keepIn K (.ref a_behind) = true)
    (h_behind_until : PySem.W.nsIn K mainGlobals "behind_until" = some (some (.ref a_behind_until)))
    (l_behind_until : K.lookup a_behind_until = some ⟨oc_behind_until, od_behind_until, .func (PySem.W.fnOf "behind_until" "behind_until" (defArgs s_behind_until) (defBody s_behind_until) (defScope s_behind_until) .none kV_behind_until dc_behind_until pm_behind_until an_behind_until cd_behind_until ct_behind_until), sl_behind_until⟩)
    (c_behind_until : PySem.W.codeIn K cd_behind_until "behind_until" = true)
    (k_behind_until : PySem.W.keepIn K (.ref a_behind_until) = true)
    (h_law_pool : PySem.W.nsIn K mainGlobals "_law_pool" = some (some (.ref a_law_pool)))
    (l_law_pool : K.lookup a_law_pool = some ⟨oc_law_pool, od_law_pool, .func (PySem.W.fnOf "_law_pool" "_law_pool" (defArgs s_law_pool) (defBody s_law_pool) (defScope s_law_pool) .none kV_law_pool dc_law_pool pm_law_pool an_law_pool cd_law_pool ct_law_pool), sl_law_pool⟩)
    (c_law_pool : PySem.W.codeIn K cd_law_pool "_law_pool" = true)
    (k_law_pool : PySem.W.keepIn K (.ref a_law_pool) = true)
    (h_law_draw : PySem.W.nsIn K mainGlobals "_law_draw" = some (some (.ref a_law_draw)))
    (l_law_draw : K.lookup a_law_draw = some ⟨oc_law_draw, od_law_draw, .func (PySem.W.fnOf "_law_draw" "_law_draw" (defArgs s_law_draw) (defBody s_law_draw) (defScope s_law_draw) .none kV_law_draw dc_law_draw pm_law_draw an_law_draw cd_law_draw ct_law_draw), sl_law_draw⟩)
    (c_law_draw : PySem.W.codeIn K cd_law_draw "_law_draw" = true)
    (k_law_draw : PySem.W.keepIn K (.ref a_law_draw) = true)
    (h_law_spend : PySem.W.nsIn K mainGlobals "_law_spend" = some (some (.ref a_law_spend)))
    (l_law_spend : K.lookup a_law_spend = some ⟨oc_law_spend, od_law_spend, .func (PySem.W.fnOf "_law_spend" "_law_spend" (defArgs s_law_spend) (defBody s_law_spend) (defScope s_law_spend) .none kV_law_spend dc_law_spend pm_law_spend an_law_spend cd_law_spend ct_law_spend), sl_law_spend⟩)
    (c_law_spend : PySem.W.codeIn K cd_law_spend "_law_spend" = true)
    (k_law_spend : PySem.W.keepIn K (.ref a_law_spend) = true)
    (h_law_number : PySem.W.nsIn K mainGlobals "_law_number" = some (some (.ref a_law_number)))
    (l_law_number : K.lookup a_law_number = some ⟨oc_law_number, od_law_number, .func (PySem.W.fnOf "_law_number" "_law_number" (defArgs s_law_number) (defBody s_law_number) (defScope s_law_number) .none kV_law_number dc_law_number pm_law_number an_law_number cd_law_number ct_law_number), sl_law_number⟩)
    (c_law_number : PySem.W.codeIn K cd_law_number "_law_number" = true)
    (k_law_number : PySem.W.keepIn K (.ref a_law_number) = true)
    (h_law_same : PySem.W.nsIn K mainGlobals "_law_same" = some (some (.ref a_law_same)))
    (l_law_same : K.lookup a_law_same = some ⟨oc_law_same, od_law_same, .func (PySem.W.fnOf "_law_same" "_law_same" (defArgs s_law_same) (defBody s_law_same) (defScope s_law_same) .none kV_law_same dc_law_same pm_law_same an_law_same cd_law_same ct_law_same), sl_law_same⟩)
    (c_law_same : PySem.W.codeIn K cd_law_same "_law_same" = true)
    (k_law_same : PySem.W.keepIn K (.ref a_law_same) = true)
    (h_law_expression : PySem.W.nsIn K mainGlobals "_law_expression" = some (some (.ref a_law_expression)))
    (l_law_expression : K.lookup a_law_expression = some ⟨oc_law_expression, od_law_expression, .func (PySem.W.fnOf "_law_expression" "_law_expression" (defArgs s_law_expression) (defBody s_law_expression) (defScope s_law_expression) .none kV_law_expression dc_law_expression pm_law_expression an_law_expression cd_law_expression ct_law_expression), sl_law_expression⟩)
    (c_law_expression : PySem.W.codeIn K cd_law_expression "_law_expression" = true)
    (k_law_expression : PySem.W.keepIn K (.ref a_law_expression) = true)
    (h_law_statement : PySem.W.nsIn K mainGlobals "_law_statement" = some (some (.ref a_law_statement)))
    (l_law_statement : K.lookup a_law_statement = some ⟨oc_law_statement, od_law_statement, .func (PySem.W.fnOf "_law_statement" "_law_statement" (defArgs s_law_statement) (defBody s_law_statement) (defScope s_law_statement) .none kV_law_statement dc_law_statement pm_law_statement an_law_statement cd_law_statement ct_law_statement), sl_law_statement⟩)
    (c_law_statement : PySem.W.codeIn K cd_law_statement "_law_statement" = true)
    (k_law_statement : PySem.W.keepIn K (.ref a_law_statement) = true)
    (h_law_block : PySem.W.nsIn K mainGlobals "_law_block" = some (some (.ref a_law_block)))
    (l_law_block : K.lookup a_law_block = some ⟨oc_law_block, od_law_block, .func (PySem.W.fnOf "_law_block" "_law_block" (defArgs s_law_block) (defBody s_law_block) (defScope s_law_block) .none kV_law_block dc_law_block pm_law_block an_law_block cd_law_block ct_law_block), sl_law_block⟩)
    (c_law_block : PySem.W.codeIn K cd_law_block "_law_block" = true)
    (k_law_block : PySem.W.keepIn K (.ref a_law_block) = true)
    (h_law_game : PySem.W.nsIn K mainGlobals "_law_game" = some (some (.ref a_law_game)))
    (l_law_game : K.lookup a_law_game = some ⟨oc_law_game, od_law_game, .func (PySem.W.fnOf "_law_game" "_law_game" (defArgs s_law_game) (defBody s_law_game) (defScope s_law_game) .none kV_law_game dc_law_game pm_law_game an_law_game cd_law_game ct_law_game), sl_law_game⟩)
    (c_law_game : PySem.W.codeIn K cd_law_game "_law_game" = true)
    (k_law_game : PySem.W.keepIn K (.ref a_law_game) = true)
    (h_law_value_named : PySem.W.nsIn K mainGlobals "_law_value_named" = some (some (.ref a_law_value_named)))
    (l_law_value_named : K.lookup a_law_value_named = some ⟨oc_law_value_named, od_law_value_named, .func (PySem.W.fnOf "_law_value_named" "_law_value_named" (defArgs s_law_value_named) (defBody s_law_value_named) (defScope s_law_value_named) .none kV_law_value_named dc_law_value_named pm_law_value_named an_law_value_named cd_law_value_named ct_law_value_named), sl_law_value_named⟩)
    (c_law_value_named : PySem.W.codeIn K cd_law_value_named "_law_value_named" = true)
    (k_law_value_named : PySem.W.keepIn K (.ref a_law_value_named) = true)
    (h_law_block_named : PySem.W.nsIn K mainGlobals "_law_block_named" = some (some (.ref a_law_block_named)))
    (l_law_block_named : K.lookup a_law_block_named = some ⟨oc_law_block_named, od_law_block_named, .func (PySem.W.fnOf "_law_block_named" "_law_block_named" (defArgs s_law_block_named) (defBody s_law_block_named) (defScope s_law_block_named) .none kV_law_block_named dc_law_block_named pm_law_block_named an_law_block_named cd_law_block_named ct_law_block_named), sl_law_block_named⟩)
    (c_law_block_named : PySem.W.codeIn K cd_law_block_named "_law_block_named" = true)
    (k_law_block_named : PySem.W.keepIn K (.ref a_law_block_named) = true)
    (h_law_named : PySem.W.nsIn K mainGlobals "_law_named" = some (some (.ref a_law_named)))
    (l_law_named : K.lookup a_law_named = some ⟨oc_law_named, od_law_named, .func (PySem.W.fnOf "_law_named" "_law_named" (defArgs s_law_named) (defBody s_law_named) (defScope s_law_named) .none kV_law_named dc_law_named pm_law_named an_law_named cd_law_named ct_law_named), sl_law_named⟩)
    (c_law_named : PySem.W.codeIn K cd_law_named "_law_named" = true)
    (k_law_named : PySem.W.keepIn K (.ref a_law_named) = true)
    (h_law_rows : PySem.W.nsIn K mainGlobals "_law_rows" = some (some (.ref a_law_rows)))
    (l_law_rows : K.lookup a_law_rows = some ⟨oc_law_rows, od_law_rows, .func (PySem.W.fnOf "_law_rows" "_law_rows" (defArgs s_law_rows) (defBody s_law_rows) (defScope s_law_rows) .none kV_law_rows dc_law_rows pm_law_rows an_law_rows cd_law_rows ct_law_rows), sl_law_rows⟩)
    (c_law_rows : PySem.W.codeIn K cd_law_rows "_law_rows" = true)
    (k_law_rows : PySem.W.keepIn K (.ref a_law_rows) = true)
    (h_law_procs : PySem.W.nsIn K mainGlobals "_law_procs" = some (some (.ref a_law_procs)))
    (l_law_procs : K.lookup a_law_procs = some ⟨oc_law_procs, od_law_procs, .func (PySem.W.fnOf "_law_procs" "_law_procs" (defArgs s_law_procs) (defBody s_law_procs) (defScope s_law_procs) .none kV_law_procs dc_law_procs pm_law_procs an_law_procs cd_law_procs ct_law_procs), sl_law_procs⟩)
    (c_law_procs : PySem.W.codeIn K cd_law_procs "_law_procs" = true)
    (k_law_procs : PySem.W.keepIn K (.ref a_law_procs) = true)
    (h_law_within : PySem.W.nsIn K mainGlobals "_law_within" = some (some (.ref a_law_within)))
    (l_law_within : K.lookup a_law_within = some ⟨oc_law_within, od_law_within, .func (PySem.W.fnOf "_law_within" "_law_within" (defArgs s_law_within) (defBody s_law_within) (defScope s_law_within) .none kV_law_within dc_law_within pm_law_within an_law_within cd_law_within ct_law_within), sl_law_within⟩)
    (c_law_within : PySem.W.codeIn K cd_law_within "_law_within" = true)
    (k_law_within : PySem.W.keepIn K (.ref a_law_within) = true)
    (h_law_until : PySem.W.nsIn K mainGlobals "_law_until" = some (some (.ref a_law_until)))
    (l_law_until : K.lookup a_law_until = some ⟨oc_law_until, od_law_until, .func (PySem.W.fnOf "_law_until" "_law_until" (defArgs s_law_until) (defBody s_law_until) (defScope s_law_until) .none kV_law_until dc_law_until pm_law_until an_law_until cd_law_until ct_law_until), sl_law_until⟩)
    (c_law_until : PySem.W.codeIn K cd_law_until "_law_until" = true)
    (k_law_until : PySem.W.keepIn K (.ref a_law_until) = true)
    (h_law : PySem.W.nsIn K mainGlobals "law" = some (some (.ref a_law)))
    (l_law : K.lookup a_law = some ⟨oc_law, od_law, .func (PySem.W.fnOf "law" "law" (defArgs s_law) (defBody s_law) (defScope s_law) .none kV_law dc_law pm_law an_law cd_law ct_law), sl_law⟩)
    (c_law : PySem.W.codeIn K cd_law "law" = true)
    (k_law : PySem.W.keepIn K (.ref a_law) = true)
    (hC_BadStep : PySem.W.nsIn K mainGlobals "BadStep" = some (some (.ref C_BadStep)))
    (kc_BadStep : PySem.W.keepIn K (.ref C_BadStep) = true)
    (xb_BadStep : PySem.W.subIn K (.ref C_BadStep) (.type "BaseException") = some true)
    (xt_BadStep : PySem.W.typeIn K (.ref C_BadStep) = some (.type "type"))
    (xd_BadStep : PySem.W.hasDictIn K C_BadStep = true)
    (any_ : PySem.W.nsIn K cStatics "thirdparty.any" = some none)
    (zn_super : PySem.W.nsIn K mainGlobals "super" = some none)
    (hi_BadStep_init : PySem.W.findIn K (.ref C_BadStep) "__init__" = some (some (.ref a_BadStep_init)))
    (ti_BadStep_init : PySem.W.typeIn K (.ref a_BadStep_init) = some (.type "function"))
    (li_BadStep_init : K.lookup a_BadStep_init = some ⟨oc_BadStep_init, od_BadStep_init, .func (PySem.W.ksFn "__init__" "BadStep.__init__" (defArgs s_BadStep_init) (defBody s_BadStep_init) (defScope s_BadStep_init) .none kV_BadStep_init dc_BadStep_init pm_BadStep_init an_BadStep_init (.ref cda_BadStep_init) ct_BadStep_init cc_BadStep_init), sl_BadStep_init⟩)
    (ci_BadStep_init : PySem.W.codeIn K (.ref cda_BadStep_init) "BadStep.__init__" = true)
    (di_BadStep_init : K.lookup cda_BadStep_init = some ⟨ccl_BadStep_init, cdd_BadStep_init, .fields vs_BadStep_init, ccs_BadStep_init⟩)
    (vi_BadStep_init : vs_BadStep_init[2]? = some (.str file tf_BadStep_init))
    (xi_BadStep_init : K.lookup cc_BadStep_init = some ⟨cl_BadStep_init, cld_BadStep_init, .cell (some (.ref C_BadStep)), csl_BadStep_init⟩)
    (si_BadStep_init : PySem.W.ks_superIn K C_BadStep C_BadStep "__init__" = some (some (.builtin "ValueError.__init__")))
    (ui_BadStep_init : PySem.W.subIn K (.ref C_BadStep) (.type "ValueError") = some true)
    (mi_BadStep_init : PySem.W.mroIn K C_BadStep (.ref C_BadStep) = some true)
    (lc_BadStep_init : K.lookup C_BadStep = some (excClassObj nm_BadStep_init q_BadStep_init C_BadStep N_BadStep_init bs_BadStep_init bm_BadStep_init true sn_BadStep_init sub_BadStep_init ab_BadStep_init col_BadStep_init dd_BadStep_init k0_BadStep_init k1_BadStep_init k2_BadStep_init k3_BadStep_init k5_BadStep_init "ValueError.__new__"))
    (rm_BadStep_init : PySem.HandSPX.refsVE bm_BadStep_init = true)
    (sa_BadStep_init : PySem.W.findIn K (.ref C_BadStep) "__setattr__" = some (some (.builtin "object.__setattr__")))
    (no_BadStep_init : PySem.W.findIn K (.ref C_BadStep) "rule" = some none)
    (hC_BadBound : PySem.W.nsIn K mainGlobals "BadBound" = some (some (.ref C_BadBound)))
    (kc_BadBound : PySem.W.keepIn K (.ref C_BadBound) = true)
    (xb_BadBound : PySem.W.subIn K (.ref C_BadBound) (.type "BaseException") = some true)
    (xt_BadBound : PySem.W.typeIn K (.ref C_BadBound) = some (.type "type"))
    (xd_BadBound : PySem.W.hasDictIn K C_BadBound = true)
    (x_BadBound : PySem.W.excIn K C_BadBound [.type "ValueError", .type "Exception", .type "BaseException", .type "object"] "ValueError.__new__" = true)
    (zn_len : PySem.W.nsIn K mainGlobals "len" = some none)
    (zn_range : PySem.W.nsIn K mainGlobals "range" = some none)
    (zn_int : PySem.W.nsIn K mainGlobals "int" = some none)
    (zn_tuple : PySem.W.nsIn K mainGlobals "tuple" = some none)
    (zn_list : PySem.W.nsIn K mainGlobals "list" = some none)
    (zn_isinstance : PySem.W.nsIn K mainGlobals "isinstance" = some none)
    (zn_min : PySem.W.nsIn K mainGlobals "min" = some none)
    (zn_bool : PySem.W.nsIn K mainGlobals "bool" = some none)
    (zn_str : PySem.W.nsIn K mainGlobals "str" = some none)
    (hg_gcd : PySem.W.nsIn K mainGlobals "gcd" = some (some (.builtin "math.gcd")))
    (qc_until_bad : cd_until_bad = .ref cda_until_bad)
    (eg_BadStep : PySem.W.findIn K (.ref C_BadStep) "__getattribute__" = some (some (.builtin "BaseException.__getattribute__")))
    (ek_BadStep : PySem.W.findIn K (.ref C_BadStep) "__getattr__" = some none)
    (ea_BadStep : PySem.W.findIn K (.ref C_BadStep) "__class__" = some (some (.builtin "object.__class__")))
    (em_BadStep : PySem.W.mroIn K C_BadStep (.type "object") = some true)
    (xga_BadStep : PySem.W.findIn K (.ref C_BadStep) "__getattribute__" = some (some (.builtin "BaseException.__getattribute__")))
    (xgg_BadStep : PySem.W.findIn K (.ref C_BadStep) "__getattr__" = some none)
    (sub_ss : PySem.W.subIn K (.ref C_BadStep) (.ref C_BadStep) = some true)
    (hP_ : PrF l.prog file) :
    ∃ fd : FuncData, (∀ (s : Shared) (v : Value), BindsTo s fd ⟨[v], []⟩ [("script", v)]) ∧ ∃ sp : Sp, (∀ (H : Hp) (a : Addr) (ns : List Int), ns.length ≤ 63 → (∀ p ∈ ([(cda_until_bad, tb_until_bad)] : List (Addr × Addr)), H p.2 = some (.tbl #[])) → SqL K H a (ns.map V.int) → sp [.ref a] H (fun v _ => v = .bl true) fun _ _ _ => False) ∧
      ∀ base : Heap, K.In base → base.Ns mainGlobals mg → (∀ p ∈ ([(cda_until_bad, tb_until_bad)] : List (Addr × Addr)), LamX.TabB base mg p.1 p.2) → FnOk l.prog w K mg base CX0 60 fa fd ["script"] sp := by
  have e := hfa.symm.trans (PySem.W.mg_of X G h_law)
  cases e
  have F_Ratio_init : FunD K "__init__" "Ratio.__init__" (defArgs s_Ratio_init) (defBody s_Ratio_init) (defScope s_Ratio_init) [.int 1] [] a_Ratio_init (PySem.W.fnOf "__init__" "Ratio.__init__" (defArgs s_Ratio_init) (defBody s_Ratio_init) (defScope s_Ratio_init) (.ref dT_Ratio_init) kV_Ratio_init dc_Ratio_init pm_Ratio_init an_Ratio_init cd_Ratio_init ct_Ratio_init) := ⟨⟨_, _, _, _, _, _, _, _, _, _, rfl, l_Ratio_init, c_Ratio_init, .inr ⟨List.cons_ne_nil _ _, _, _, _, _, rfl, dl_Ratio_init, rfl, (.cons ⟨_, rfl⟩ .nil)⟩, .inl rfl⟩, k_Ratio_init⟩
  obtain ⟨ds0_Ratio_init, dv0_Ratio_init, db0_Ratio_init⟩ := F_Ratio_init.binds1 (ps := ["self", "num", "den"]) 2 0 (List.cons_ne_nil _ _) rfl fun _ _ _ _ _ _ _ us its hl hi => match us, its, hl, hi with | [_, _], [_], _, _ => ⟨_, rfl, rfl⟩
  obtain ⟨ds1_Ratio_init, dv1_Ratio_init, db1_Ratio_init⟩ := F_Ratio_init.binds1 (ps := ["self", "num", "den"]) 3 1 (List.cons_ne_nil _ _) rfl fun _ _ _ _ _ _ _ us its hl hi => match us, its, hl, hi with | [_, _, _], [_], _, _ => ⟨_, rfl, rfl⟩
  have b_Ratio_init : L2.Binds K (PySem.W.fnOf "__init__" "Ratio.__init__" (defArgs s_Ratio_init) (defBody s_Ratio_init) (defScope s_Ratio_init) (.ref dT_Ratio_init) kV_Ratio_init dc_Ratio_init pm_Ratio_init an_Ratio_init cd_Ratio_init ct_Ratio_init) ["self", "num", "den"] [] := by cases dv1_Ratio_init; exact db1_Ratio_init
  have F_Bound_init : FunD K "__init__" "Bound.__init__" (defArgs s_Bound_init) (defBody s_Bound_init) (defScope s_Bound_init) [.non] [] a_Bound_init (PySem.W.fnOf "__init__" "Bound.__init__" (defArgs s_Bound_init) (defBody s_Bound_init) (defScope s_Bound_init) (.ref dT_Bound_init) kV_Bound_init dc_Bound_init pm_Bound_init an_Bound_init cd_Bound_init ct_Bound_init) := ⟨⟨_, _, _, _, _, _, _, _, _, _, rfl, l_Bound_init, c_Bound_init, .inr ⟨List.cons_ne_nil _ _, _, _, _, _, rfl, dl_Bound_init, rfl, (.cons rfl .nil)⟩, .inl rfl⟩, k_Bound_init⟩
  obtain ⟨ds0_Bound_init, dv0_Bound_init, db0_Bound_init⟩ := F_Bound_init.binds1 (ps := ["self", "flat", "first", "more", "limit"]) 4 0 (List.cons_ne_nil _ _) rfl fun _ _ _ _ _ _ _ us its hl hi => match us, its, hl, hi with | [_, _, _, _], [_], _, _ => ⟨_, rfl, rfl⟩
  obtain ⟨ds1_Bound_init, dv1_Bound_init, db1_Bound_init⟩ := F_Bound_init.binds1 (ps := ["self", "flat", "first", "more", "limit"]) 5 1 (List.cons_ne_nil _ _) rfl fun _ _ _ _ _ _ _ us its hl hi => match us, its, hl, hi with | [_, _, _, _, _], [_], _, _ => ⟨_, rfl, rfl⟩
  have b_Bound_init : L2.Binds K (PySem.W.fnOf "__init__" "Bound.__init__" (defArgs s_Bound_init) (defBody s_Bound_init) (defScope s_Bound_init) (.ref dT_Bound_init) kV_Bound_init dc_Bound_init pm_Bound_init an_Bound_init cd_Bound_init ct_Bound_init) ["self", "flat", "first", "more", "limit"] [] := by cases dv1_Bound_init; exact db1_Bound_init
  have F_nothing := fun_mk (st := s_nothing) l_nothing c_nothing k_nothing
  have b_nothing := F_nothing.binds (ps := []) fun _ _ _ _ _ _ us hl => match us, hl with | [], _ => rfl
  have F_Game_init := fun_mk (st := s_Game_init) l_Game_init c_Game_init k_Game_init
  have b_Game_init := F_Game_init.binds (ps := ["self", "variables", "tables", "lots", "procs"]) fun _ _ _ _ _ _ us hl => match us, hl with | [_, _, _, _, _], _ => rfl
  have F_Game_eq := fun_mk (st := s_Game_eq) l_Game_eq c_Game_eq k_Game_eq
  have b_Game_eq := F_Game_eq.binds (ps := ["self", "other"]) fun _ _ _ _ _ _ us hl => match us, hl with | [_, _], _ => rfl
  have F_changed_block := fun_mk (st := s_changed_block) l_changed_block c_changed_block k_changed_block
  have b_changed_block := F_changed_block.binds (ps := ["block", "change"]) fun _ _ _ _ _ _ us hl => match us, hl with | [_, _], _ => rfl
  have F_with_changed_blocks := fun_mk (st := s_with_changed_blocks) l_with_changed_blocks c_with_changed_blocks k_with_changed_blocks
  have b_with_changed_blocks := F_with_changed_blocks.binds (ps := ["statement", "change"]) fun _ _ _ _ _ _ us hl => match us, hl with | [_, _], _ => rfl
  have F_with_changed_statements := fun_mk (st := s_with_changed_statements) l_with_changed_statements c_with_changed_statements k_with_changed_statements
  have b_with_changed_statements := F_with_changed_statements.binds (ps := ["game", "change"]) fun _ _ _ _ _ _ us hl => match us, hl with | [_, _], _ => rfl
  have F_without_inner := fun_mk (st := s_without_inner) l_without_inner c_without_inner k_without_inner
  have b_without_inner := F_without_inner.binds (ps := ["statement"]) fun _ _ _ _ _ _ us hl => match us, hl with | [_], _ => rfl
  have F_until_bad := fun_mk (st := s_until_bad) l_until_bad c_until_bad k_until_bad
  have b_until_bad := F_until_bad.binds (ps := ["game"]) fun _ _ _ _ _ _ us hl => match us, hl with | [_], _ => rfl
  have F_alike := fun_mk (st := s_alike) l_alike c_alike k_alike
  have b_alike := F_alike.binds (ps := ["game", "other"]) fun _ _ _ _ _ _ us hl => match us, hl with | [_, _], _ => rfl
  have F_Derivation_init := fun_mk (st := s_Derivation_init) l_Derivation_init c_Derivation_init k_Derivation_init
  have b_Derivation_init := F_Derivation_init.binds (ps := ["self", "game"]) fun _ _ _ _ _ _ us hl => match us, hl with | [_, _], _ => rfl
  have F_Derivation_step := fun_mk (st := s_Derivation_step) l_Derivation_step c_Derivation_step k_Derivation_step
  have b_Derivation_step := F_Derivation_step.binds (ps := ["self", "step"]) fun _ _ _ _ _ _ us hl => match us, hl with | [_, _], _ => rfl
  have F_behind := fun_mk (st := s_behind) l_behind c_behind k_behind
  have b_behind := F_behind.binds (ps := ["game", "step"]) fun _ _ _ _ _ _ us hl => match us, hl with | [_, _], _ => rfl
  have F_behind_until := fun_mk (st := s_behind_until) l_behind_until c_behind_until k_behind_until
  have b_behind_until := F_behind_until.binds (ps := ["game", "step"]) fun _ _ _ _ _ _ us hl => match us, hl with | [_, _], _ => rfl
  have F_law_pool := fun_mk (st := s_law_pool) l_law_pool c_law_pool k_law_pool
  have b_law_pool := F_law_pool.binds (ps := ["script", "budget"]) fun _ _ _ _ _ _ us hl => match us, hl with | [_, _], _ => rfl
  have F_law_draw := fun_mk (st := s_law_draw) l_law_draw c_law_draw k_law_draw
  have b_law_draw := F_law_draw.binds (ps := ["pool", "size"]) fun _ _ _ _ _ _ us hl => match us, hl with | [_, _], _ => rfl
  have F_law_spend := fun_mk (st := s_law_spend) l_law_spend c_law_spend k_law_spend
  have b_law_spend := F_law_spend.binds (ps := ["pool"]) fun _ _ _ _ _ _ us hl => match us, hl with | [_], _ => rfl
  have F_law_number := fun_mk (st := s_law_number) l_law_number c_law_number k_law_number
  have b_law_number := F_law_number.binds (ps := ["pool"]) fun _ _ _ _ _ _ us hl => match us, hl with | [_], _ => rfl
  have F_law_same := fun_mk (st := s_law_same) l_law_same c_law_same k_law_same
  have b_law_same := F_law_same.binds (ps := ["actual", "due"]) fun _ _ _ _ _ _ us hl => match us, hl with | [_, _], _ => rfl
  have F_law_expression := fun_mk (st := s_law_expression) l_law_expression c_law_expression k_law_expression
  have b_law_expression := F_law_expression.binds (ps := ["pool", "scope", "deep"]) fun _ _ _ _ _ _ us hl => match us, hl with | [_, _, _], _ => rfl
  have F_law_statement := fun_mk (st := s_law_statement) l_law_statement c_law_statement k_law_statement
  have b_law_statement := F_law_statement.binds (ps := ["pool", "scope", "room"]) fun _ _ _ _ _ _ us hl => match us, hl with | [_, _, _], _ => rfl
  have F_law_block := fun_mk (st := s_law_block) l_law_block c_law_block k_law_block
  have b_law_block := F_law_block.binds (ps := ["pool", "scope", "room", "most"]) fun _ _ _ _ _ _ us hl => match us, hl with | [_, _, _, _], _ => rfl
  have F_law_game := fun_mk (st := s_law_game) l_law_game c_law_game k_law_game
  have b_law_game := F_law_game.binds (ps := ["pool", "wide", "ways"]) fun _ _ _ _ _ _ us hl => match us, hl with | [_, _, _], _ => rfl
  have F_law_value_named := fun_mk (st := s_law_value_named) l_law_value_named c_law_value_named k_law_value_named
  have b_law_value_named := F_law_value_named.binds (ps := ["due", "kind", "old", "new"]) fun _ _ _ _ _ _ us hl => match us, hl with | [_, _, _, _], _ => rfl
  have F_law_block_named := fun_mk (st := s_law_block_named) l_law_block_named c_law_block_named k_law_block_named
  have b_law_block_named := F_law_block_named.binds (ps := ["block", "kind", "old", "new"]) fun _ _ _ _ _ _ us hl => match us, hl with | [_, _, _, _], _ => rfl
  have F_law_named := fun_mk (st := s_law_named) l_law_named c_law_named k_law_named
  have b_law_named := F_law_named.binds (ps := ["game", "kind", "old", "new"]) fun _ _ _ _ _ _ us hl => match us, hl with | [_, _, _, _], _ => rfl
  have F_law_rows := fun_mk (st := s_law_rows) l_law_rows c_law_rows k_law_rows
  have b_law_rows := F_law_rows.binds (ps := ["game"]) fun _ _ _ _ _ _ us hl => match us, hl with | [_], _ => rfl
  have F_law_procs := fun_mk (st := s_law_procs) l_law_procs c_law_procs k_law_procs
  have b_law_procs := F_law_procs.binds (ps := ["game"]) fun _ _ _ _ _ _ us hl => match us, hl with | [_], _ => rfl
  have F_law_within := fun_mk (st := s_law_within) l_law_within c_law_within k_law_within
  have b_law_within := F_law_within.binds (ps := ["block"]) fun _ _ _ _ _ _ us hl => match us, hl with | [_], _ => rfl
  have F_law_until := fun_mk (st := s_law_until) l_law_until c_law_until k_law_until
  have b_law_until := F_law_until.binds (ps := ["made", "other"]) fun _ _ _ _ _ _ us hl => match us, hl with | [_, _], _ => rfl
  have F_law := fun_mk (st := s_law) l_law c_law k_law
  have b_law := F_law.binds (ps := ["script"]) fun _ _ _ _ _ _ us hl => match us, hl with | [_], _ => rfl
  refine ⟨PySem.W.fnOf "law" "law" (defArgs s_law) (defBody s_law) (defScope s_law) .none kV_law dc_law pm_law an_law cd_law ct_law, fun s v => .of_eq rfl, ?_⟩
  exact fin_law hP_ (mg := mg) (K := K) {
    a_BadStep_init := _
    fd_BadStep_init := _
    a_Ratio_init := _
    fd_Ratio_init := _
    a_Bound_init := _
    fd_Bound_init := _
    a_nothing := _
    fd_nothing := _
    a_Game_init := _
    fd_Game_init := _
    a_Game_eq := _
    fd_Game_eq := _
    a_changed_block := _
    fd_changed_block := _
    a_with_changed_blocks := _
    fd_with_changed_blocks := _
    a_with_changed_statements := _
    fd_with_changed_statements := _
    a_without_inner := _
    fd_without_inner := _
    a_until_bad := _
    fd_until_bad := _
    a_alike := _
    fd_alike := _
    a_Derivation_init := _
    fd_Derivation_init := _
    a_Derivation_step := _
    fd_Derivation_step := _
    a_behind := _
    fd_behind := _
    a_behind_until := _
    fd_behind_until := _
    a_law_pool := _
    fd_law_pool := _
    a_law_draw := _
    fd_law_draw := _
    a_law_spend := _
    fd_law_spend := _
    a_law_number := _
    fd_law_number := _
    a_law_same := _
    fd_law_same := _
    a_law_expression := _
    fd_law_expression := _
    a_law_statement := _
    fd_law_statement := _
    a_law_block := _
    fd_law_block := _
    a_law_game := _
    fd_law_game := _
    a_law_value_named := _
    fd_law_value_named := _
    a_law_block_named := _
    fd_law_block_named := _
    a_law_named := _
    fd_law_named := _
    a_law_rows := _
    fd_law_rows := _
    a_law_procs := _
    fd_law_procs := _
    a_law_within := _
    fd_law_within := _
    a_law_until := _
    fd_law_until := _
    a_law := _
    fd_law := _
    C_Ratio := _
    C_Bound := _
    C_Game := _
    C_Derivation := _
    C_BadStep := _
    C_BadBound := _
    o_n := o_n
    o_t := o_t
    g_Ratio := PySem.W.mg_of X G hC_Ratio
    cl_Ratio := ⟨pg_Ratio, hd_Ratio, po_Ratio, sa_Ratio⟩
    sf_Ratio := sf_Ratio
    na_Ratio_num := na_Ratio_num
    na_Ratio_den := na_Ratio_den
    g_Bound := PySem.W.mg_of X G hC_Bound
    cl_Bound := ⟨pg_Bound, hd_Bound, po_Bound, sa_Bound⟩
    sf_Bound := sf_Bound
    na_Bound_flat := na_Bound_flat
    na_Bound_first := na_Bound_first
    na_Bound_more := na_Bound_more
    na_Bound_limit := na_Bound_limit
    g_Game := PySem.W.mg_of X G hC_Game
    cl_Game := ⟨pg_Game, hd_Game, po_Game, sa_Game⟩
    sf_Game := sf_Game
    na_Game_variables := na_Game_variables
    na_Game_tables := na_Game_tables
    na_Game_lots := na_Game_lots
    na_Game_procs := na_Game_procs
    ia_Game := ia_Game
    im_Game := im_Game
    ik_Game := ik_Game
    g_Derivation := PySem.W.mg_of X G hC_Derivation
    cl_Derivation := ⟨pg_Derivation, hd_Derivation, po_Derivation, sa_Derivation⟩
    sf_Derivation := sf_Derivation
    na_Derivation_first := na_Derivation_first
    na_Derivation_last := na_Derivation_last
    na_Derivation_bound := na_Derivation_bound
    F_Ratio_init := F_Ratio_init
    ds0_Ratio_init := ds0_Ratio_init
    dv0_Ratio_init := dv0_Ratio_init
    db0_Ratio_init := db0_Ratio_init
    b_Ratio_init := b_Ratio_init
    k_Ratio_init := k_Ratio_init
    m_Ratio_init := ⟨h_Ratio_init, i_Ratio_init, k_Ratio_init⟩
    F_Bound_init := F_Bound_init
    ds0_Bound_init := ds0_Bound_init
    dv0_Bound_init := dv0_Bound_init
    db0_Bound_init := db0_Bound_init
    b_Bound_init := b_Bound_init
    k_Bound_init := k_Bound_init
    m_Bound_init := ⟨h_Bound_init, i_Bound_init, k_Bound_init⟩
    F_nothing := F_nothing
    b_nothing := b_nothing
    k_nothing := k_nothing
    g_nothing := PySem.W.mg_of X G h_nothing
    F_Game_init := F_Game_init
    b_Game_init := b_Game_init
    k_Game_init := k_Game_init
    m_Game_init := ⟨h_Game_init, i_Game_init, k_Game_init⟩
    F_Game_eq := F_Game_eq
    b_Game_eq := b_Game_eq
    k_Game_eq := k_Game_eq
    m_Game_eq := ⟨h_Game_eq, i_Game_eq, k_Game_eq⟩
    F_changed_block := F_changed_block
    b_changed_block := b_changed_block
    k_changed_block := k_changed_block
    g_changed_block := PySem.W.mg_of X G h_changed_block
    F_with_changed_blocks := F_with_changed_blocks
    b_with_changed_blocks := b_with_changed_blocks
    k_with_changed_blocks := k_with_changed_blocks
    g_with_changed_blocks := PySem.W.mg_of X G h_with_changed_blocks
    F_with_changed_statements := F_with_changed_statements
    b_with_changed_statements := b_with_changed_statements
    k_with_changed_statements := k_with_changed_statements
    g_with_changed_statements := PySem.W.mg_of X G h_with_changed_statements
    F_without_inner := F_without_inner
    b_without_inner := b_without_inner
    k_without_inner := k_without_inner
    g_without_inner := PySem.W.mg_of X G h_without_inner
    F_until_bad := F_until_bad
    b_until_bad := b_until_bad
    k_until_bad := k_until_bad
    g_until_bad := PySem.W.mg_of X G h_until_bad
    F_alike := F_alike
    b_alike := b_alike
    k_alike := k_alike
    g_alike := PySem.W.mg_of X G h_alike
    F_Derivation_init := F_Derivation_init
    b_Derivation_init := b_Derivation_init
    k_Derivation_init := k_Derivation_init
    m_Derivation_init := ⟨h_Derivation_init, i_Derivation_init, k_Derivation_init⟩
    F_Derivation_step := F_Derivation_step
    b_Derivation_step := b_Derivation_step
    k_Derivation_step := k_Derivation_step
    m_Derivation_step := ⟨h_Derivation_step, i_Derivation_step, k_Derivation_step⟩
    F_behind := F_behind
    b_behind := b_behind
    k_behind := k_behind
    g_behind := PySem.W.mg_of X G h_behind
    F_behind_until := F_behind_until
    b_behind_until := b_behind_until
    k_behind_until := k_behind_until
    g_behind_until := PySem.W.mg_of X G h_behind_until
    F_law_pool := F_law_pool
    b_law_pool := b_law_pool
    k_law_pool := k_law_pool
    g_law_pool := PySem.W.mg_of X G h_law_pool
    F_law_draw := F_law_draw
    b_law_draw := b_law_draw
    k_law_draw := k_law_draw
    g_law_draw := PySem.W.mg_of X G h_law_draw
    F_law_spend := F_law_spend
    b_law_spend := b_law_spend
    k_law_spend := k_law_spend
    g_law_spend := PySem.W.mg_of X G h_law_spend
    F_law_number := F_law_number
    b_law_number := b_law_number
    k_law_number := k_law_number
    g_law_number := PySem.W.mg_of X G h_law_number
    F_law_same := F_law_same
    b_law_same := b_law_same
    k_law_same := k_law_same
    g_law_same := PySem.W.mg_of X G h_law_same
    F_law_expression := F_law_expression
    b_law_expression := b_law_expression
    k_law_expression := k_law_expression
    g_law_expression := PySem.W.mg_of X G h_law_expression
    F_law_statement := F_law_statement
    b_law_statement := b_law_statement
    k_law_statement := k_law_statement
    g_law_statement := PySem.W.mg_of X G h_law_statement
    F_law_block := F_law_block
    b_law_block := b_law_block
    k_law_block := k_law_block
    g_law_block := PySem.W.mg_of X G h_law_block
    F_law_game := F_law_game
    b_law_game := b_law_game
    k_law_game := k_law_game
    g_law_game := PySem.W.mg_of X G h_law_game
    F_law_value_named := F_law_value_named
    b_law_value_named := b_law_value_named
    k_law_value_named := k_law_value_named
    g_law_value_named := PySem.W.mg_of X G h_law_value_named
    F_law_block_named := F_law_block_named
    b_law_block_named := b_law_block_named
    k_law_block_named := k_law_block_named
    g_law_block_named := PySem.W.mg_of X G h_law_block_named
    F_law_named := F_law_named
    b_law_named := b_law_named
    k_law_named := k_law_named
    g_law_named := PySem.W.mg_of X G h_law_named
    F_law_rows := F_law_rows
    b_law_rows := b_law_rows
    k_law_rows := k_law_rows
    g_law_rows := PySem.W.mg_of X G h_law_rows
    F_law_procs := F_law_procs
    b_law_procs := b_law_procs
    k_law_procs := k_law_procs
    g_law_procs := PySem.W.mg_of X G h_law_procs
    F_law_within := F_law_within
    b_law_within := b_law_within
    k_law_within := k_law_within
    g_law_within := PySem.W.mg_of X G h_law_within
    F_law_until := F_law_until
    b_law_until := b_law_until
    k_law_until := k_law_until
    g_law_until := PySem.W.mg_of X G h_law_until
    F_law := F_law
    b_law := b_law
    k_law := k_law
    g_law := PySem.W.mg_of X G h_law
    mk_Ratio := ⟨mk_Ratio, h_Ratio_init, i_Ratio_init, kc_Ratio⟩
    mk_Bound := ⟨mk_Bound, h_Bound_init, i_Bound_init, kc_Bound⟩
    mk_Game := ⟨mk_Game, h_Game_init, i_Game_init, kc_Game⟩
    mk_Derivation := ⟨mk_Derivation, h_Derivation_init, i_Derivation_init, kc_Derivation⟩
    g_BadStep := PySem.W.mg_of X G hC_BadStep
    kc_BadStep := kc_BadStep
    xb_BadStep := xb_BadStep
    xt_BadStep := xt_BadStep
    xd_BadStep := xd_BadStep
    z_super := PySem.W.mg_none_of X G zn_super
    E_BadStep := { ex := ⟨_, _, _, _, _, _, _, _, _, _, _, _, _, _, _, _, _, _, _, rfl, li_BadStep_init, ci_BadStep_init, di_BadStep_init, vi_BadStep_init, xi_BadStep_init⟩, any := any_, sup := si_BadStep_init, subV := ui_BadStep_init, mro := mi_BadStep_init, T := ⟨⟨_, _, _, _, _, _, _, _, _, _, _, _, _, _, _, lc_BadStep_init, rm_BadStep_init⟩, sa_BadStep_init, xb_BadStep, xt_BadStep, kc_BadStep⟩, iC := hi_BadStep_init, tI := ti_BadStep_init, no := no_BadStep_init, z := PySem.W.mg_none_of X G zn_super }
    b_BadStep_init := (.all fun us hl => match us, hl with | [_, _], _ => rfl)
    g_BadBound := PySem.W.mg_of X G hC_BadBound
    kc_BadBound := kc_BadBound
    xb_BadBound := xb_BadBound
    xt_BadBound := xt_BadBound
    xd_BadBound := xd_BadBound
    x_BadBound := x_BadBound
    z_len := PySem.W.mg_none_of X G zn_len
    z_range := PySem.W.mg_none_of X G zn_range
    z_int := PySem.W.mg_none_of X G zn_int
    z_tuple := PySem.W.mg_none_of X G zn_tuple
    z_list := PySem.W.mg_none_of X G zn_list
    z_isinstance := PySem.W.mg_none_of X G zn_isinstance
    z_min := PySem.W.mg_none_of X G zn_min
    z_bool := PySem.W.mg_none_of X G zn_bool
    z_str := PySem.W.mg_none_of X G zn_str
    g_gcd := PySem.W.mg_of X G hg_gcd
    cda_until_bad := cda_until_bad
    tb_until_bad := tb_until_bad
    qc_until_bad := qc_until_bad
    ec_BadStep := ⟨eg_BadStep, ek_BadStep, xb_BadStep, xd_BadStep, ea_BadStep, o_n, o_t, em_BadStep⟩
    xga_BadStep := xga_BadStep
    xgg_BadStep := xgg_BadStep
    sub_ss := sub_ss }
def exs0 : List (PySem.W.Frag → Bool) := [
    fun K => HdF.vexB K (He.ga K "BadStep"),
    fun K => decide (PySem.W.specialIn K (.builtin "object.__class__") "__get__" = some (some (.builtin "getset_descriptor.__get__"))),
    fun K => decide (PySem.W.takesIn K (.builtin "object.__class__") = some true),
    fun K => decide (PySem.W.nsIn K mainGlobals "Ratio" = some (some (.ref (He.ga K "Ratio")))),
    fun K => decide (PySem.W.plainGet K (He.ga K "Ratio") Str.empty = true),
    fun K => decide (PySem.W.hasDictIn K (He.ga K "Ratio") = true),
    fun K => decide (PySem.W.plainOver K (He.ga K "Ratio") = true),
    fun K => decide (PySem.W.findIn K (.ref (He.ga K "Ratio")) "__setattr__" = some (some (.builtin "object.__setattr__"))),
    fun K => decide (PySem.W.makesIn K (He.ga K "Ratio") = true),
    fun K => decide (PySem.W.keepIn K (.ref (He.ga K "Ratio")) = true),
    fun K => decide (PySem.W.selfFirst K (He.ga K "Ratio") = true),
    fun K => decide (PySem.W.findIn K (.ref (He.ga K "Ratio")) "num" = some none),
    fun K => decide (PySem.W.findIn K (.ref (He.ga K "Ratio")) "den" = some none),
    fun K => decide (PySem.W.nsIn K mainGlobals "Bound" = some (some (.ref (He.ga K "Bound")))),
    fun K => decide (PySem.W.plainGet K (He.ga K "Bound") Str.empty = true),
    fun K => decide (PySem.W.hasDictIn K (He.ga K "Bound") = true),
    fun K => decide (PySem.W.plainOver K (He.ga K "Bound") = true),
    fun K => decide (PySem.W.findIn K (.ref (He.ga K "Bound")) "__setattr__" = some (some (.builtin "object.__setattr__"))),
    fun K => decide (PySem.W.makesIn K (He.ga K "Bound") = true),
    fun K => decide (PySem.W.keepIn K (.ref (He.ga K "Bound")) = true),
    fun K => decide (PySem.W.selfFirst K (He.ga K "Bound") = true),
    fun K => decide (PySem.W.findIn K (.ref (He.ga K "Bound")) "flat" = some none),
    fun K => decide (PySem.W.findIn K (.ref (He.ga K "Bound")) "first" = some none),
    fun K => decide (PySem.W.findIn K (.ref (He.ga K "Bound")) "more" = some none),
    fun K => decide (PySem.W.findIn K (.ref (He.ga K "Bound")) "limit" = some none),
    fun K => decide (PySem.W.nsIn K mainGlobals "Game" = some (some (.ref (He.ga K "Game")))),
    fun K => decide (PySem.W.plainGet K (He.ga K "Game") Str.empty = true),
    fun K => decide (PySem.W.hasDictIn K (He.ga K "Game") = true),
    fun K => decide (PySem.W.plainOver K (He.ga K "Game") = true),
    fun K => decide (PySem.W.findIn K (.ref (He.ga K "Game")) "__setattr__" = some (some (.builtin "object.__setattr__"))),
    fun K => decide (PySem.W.makesIn K (He.ga K "Game") = true),
    fun K => decide (PySem.W.keepIn K (.ref (He.ga K "Game")) = true),
    fun K => decide (PySem.W.selfFirst K (He.ga K "Game") = true),
    fun K => decide (PySem.W.findIn K (.ref (He.ga K "Game")) "variables" = some none),
    fun K => decide (PySem.W.findIn K (.ref (He.ga K "Game")) "tables" = some none),
    fun K => decide (PySem.W.findIn K (.ref (He.ga K "Game")) "lots" = some none),
    fun K => decide (PySem.W.findIn K (.ref (He.ga K "Game")) "procs" = some none),
    fun K => decide (PySem.W.findIn K (.ref (He.ga K "Game")) "__class__" = some (some (.builtin "object.__class__"))),
    fun K => decide (PySem.W.mroIn K (He.ga K "Game") (.type "object") = some true),
    fun K => decide (PySem.W.kitOne K (.ref (He.ga K "Game")) (.ref (He.ga K "Game")) = some true)]
def exs1 : List (PySem.W.Frag → Bool) := [
    fun K => decide (PySem.W.nsIn K mainGlobals "Derivation" = some (some (.ref (He.ga K "Derivation")))),
    fun K => decide (PySem.W.plainGet K (He.ga K "Derivation") Str.empty = true),
    fun K => decide (PySem.W.hasDictIn K (He.ga K "Derivation") = true),
    fun K => decide (PySem.W.plainOver K (He.ga K "Derivation") = true),
    fun K => decide (PySem.W.findIn K (.ref (He.ga K "Derivation")) "__setattr__" = some (some (.builtin "object.__setattr__"))),
    fun K => decide (PySem.W.makesIn K (He.ga K "Derivation") = true),
    fun K => decide (PySem.W.keepIn K (.ref (He.ga K "Derivation")) = true),
    fun K => decide (PySem.W.selfFirst K (He.ga K "Derivation") = true),
    fun K => decide (PySem.W.findIn K (.ref (He.ga K "Derivation")) "first" = some none),
    fun K => decide (PySem.W.findIn K (.ref (He.ga K "Derivation")) "last" = some none),
    fun K => decide (PySem.W.findIn K (.ref (He.ga K "Derivation")) "bound" = some none),
    fun K => decide (PySem.W.findIn K (.ref (He.ga K "Ratio")) "__init__" = some (some (.ref (He.ma K (He.ga K "Ratio") "__init__")))),
    fun K => decide (PySem.W.isFn K (.ref (He.ma K (He.ga K "Ratio") "__init__")) = true),
    fun K => decide (PySem.W.findIn K (.ref (He.ga K "Bound")) "__init__" = some (some (.ref (He.ma K (He.ga K "Bound") "__init__")))),
    fun K => decide (PySem.W.isFn K (.ref (He.ma K (He.ga K "Bound") "__init__")) = true),
    fun K => decide (PySem.W.nsIn K mainGlobals "nothing" = some (some (.ref (He.ga K "nothing")))),
    fun K => decide (PySem.W.findIn K (.ref (He.ga K "Game")) "__init__" = some (some (.ref (He.ma K (He.ga K "Game") "__init__")))),
    fun K => decide (PySem.W.isFn K (.ref (He.ma K (He.ga K "Game") "__init__")) = true),
    fun K => decide (PySem.W.findIn K (.ref (He.ga K "Game")) "__eq__" = some (some (.ref (He.ma K (He.ga K "Game") "__eq__")))),
    fun K => decide (PySem.W.isFn K (.ref (He.ma K (He.ga K "Game") "__eq__")) = true),
    fun K => decide (PySem.W.nsIn K mainGlobals "changed_block" = some (some (.ref (He.ga K "changed_block")))),
    fun K => decide (PySem.W.nsIn K mainGlobals "with_changed_blocks" = some (some (.ref (He.ga K "with_changed_blocks")))),
    fun K => decide (PySem.W.nsIn K mainGlobals "with_changed_statements" = some (some (.ref (He.ga K "with_changed_statements")))),
    fun K => decide (PySem.W.nsIn K mainGlobals "without_inner" = some (some (.ref (He.ga K "without_inner")))),
    fun K => decide (PySem.W.nsIn K mainGlobals "until_bad" = some (some (.ref (He.ga K "until_bad")))),
    fun K => decide (PySem.W.nsIn K mainGlobals "alike" = some (some (.ref (He.ga K "alike")))),
    fun K => decide (PySem.W.findIn K (.ref (He.ga K "Derivation")) "__init__" = some (some (.ref (He.ma K (He.ga K "Derivation") "__init__")))),
    fun K => decide (PySem.W.isFn K (.ref (He.ma K (He.ga K "Derivation") "__init__")) = true),
    fun K => decide (PySem.W.findIn K (.ref (He.ga K "Derivation")) "step" = some (some (.ref (He.ma K (He.ga K "Derivation") "step")))),
    fun K => decide (PySem.W.isFn K (.ref (He.ma K (He.ga K "Derivation") "step")) = true),
    fun K => decide (PySem.W.nsIn K mainGlobals "behind" = some (some (.ref (He.ga K "behind")))),
    fun K => decide (PySem.W.nsIn K mainGlobals "behind_until" = some (some (.ref (He.ga K "behind_until")))),
    fun K => decide (PySem.W.nsIn K mainGlobals "_law_pool" = some (some (.ref (He.ga K "_law_pool")))),
    fun K => decide (PySem.W.nsIn K mainGlobals "_law_draw" = some (some (.ref (He.ga K "_law_draw")))),
    fun K => decide (PySem.W.nsIn K mainGlobals "_law_spend" = some (some (.ref (He.ga K "_law_spend")))),
    fun K => decide (PySem.W.nsIn K mainGlobals "_law_number" = some (some (.ref (He.ga K "_law_number")))),
    fun K => decide (PySem.W.nsIn K mainGlobals "_law_same" = some (some (.ref (He.ga K "_law_same")))),
    fun K => decide (PySem.W.nsIn K mainGlobals "_law_expression" = some (some (.ref (He.ga K "_law_expression")))),
    fun K => decide (PySem.W.nsIn K mainGlobals "_law_statement" = some (some (.ref (He.ga K "_law_statement")))),
    fun K => decide (PySem.W.nsIn K mainGlobals "_law_block" = some (some (.ref (He.ga K "_law_block"))))]
def exs2 : List (PySem.W.Frag → Bool) := [
    fun K => decide (PySem.W.nsIn K mainGlobals "_law_game" = some (some (.ref (He.ga K "_law_game")))),
    fun K => decide (PySem.W.nsIn K mainGlobals "_law_value_named" = some (some (.ref (He.ga K "_law_value_named")))),
    fun K => decide (PySem.W.nsIn K mainGlobals "_law_block_named" = some (some (.ref (He.ga K "_law_block_named")))),
    fun K => decide (PySem.W.nsIn K mainGlobals "_law_named" = some (some (.ref (He.ga K "_law_named")))),
    fun K => decide (PySem.W.nsIn K mainGlobals "_law_rows" = some (some (.ref (He.ga K "_law_rows")))),
    fun K => decide (PySem.W.nsIn K mainGlobals "_law_procs" = some (some (.ref (He.ga K "_law_procs")))),
    fun K => decide (PySem.W.nsIn K mainGlobals "_law_within" = some (some (.ref (He.ga K "_law_within")))),
    fun K => decide (PySem.W.nsIn K mainGlobals "_law_until" = some (some (.ref (He.ga K "_law_until")))),
    fun K => decide (PySem.W.nsIn K mainGlobals "law" = some (some (.ref (He.ga K "law")))),
    fun K => decide (PySem.W.nsIn K mainGlobals "BadStep" = some (some (.ref (He.ga K "BadStep")))),
    fun K => decide (PySem.W.keepIn K (.ref (He.ga K "BadStep")) = true),
    fun K => decide (PySem.W.subIn K (.ref (He.ga K "BadStep")) (.type "BaseException") = some true),
    fun K => decide (PySem.W.typeIn K (.ref (He.ga K "BadStep")) = some (.type "type")),
    fun K => decide (PySem.W.hasDictIn K (He.ga K "BadStep") = true),
    fun K => decide (PySem.W.nsIn K cStatics "thirdparty.any" = some none),
    fun K => decide (PySem.W.nsIn K mainGlobals "super" = some none),
    fun K => decide (PySem.W.findIn K (.ref (He.ga K "BadStep")) "__init__" = some (some (.ref (He.ma K (He.ga K "BadStep") "__init__")))),
    fun K => decide (PySem.W.typeIn K (.ref (He.ma K (He.ga K "BadStep") "__init__")) = some (.type "function")),
    fun K => decide (PySem.W.ks_superIn K (He.ga K "BadStep") (He.ga K "BadStep") "__init__" = some (some (.builtin "ValueError.__init__"))),
    fun K => decide (PySem.W.subIn K (.ref (He.ga K "BadStep")) (.type "ValueError") = some true),
    fun K => decide (PySem.W.mroIn K (He.ga K "BadStep") (.ref (He.ga K "BadStep")) = some true),
    fun K => decide (PySem.W.findIn K (.ref (He.ga K "BadStep")) "__setattr__" = some (some (.builtin "object.__setattr__"))),
    fun K => decide (PySem.W.findIn K (.ref (He.ga K "BadStep")) "rule" = some none),
    fun K => decide (PySem.W.nsIn K mainGlobals "BadBound" = some (some (.ref (He.ga K "BadBound")))),
    fun K => decide (PySem.W.keepIn K (.ref (He.ga K "BadBound")) = true),
    fun K => decide (PySem.W.subIn K (.ref (He.ga K "BadBound")) (.type "BaseException") = some true),
    fun K => decide (PySem.W.typeIn K (.ref (He.ga K "BadBound")) = some (.type "type")),
    fun K => decide (PySem.W.hasDictIn K (He.ga K "BadBound") = true),
    fun K => decide (PySem.W.excIn K (He.ga K "BadBound") [.type "ValueError", .type "Exception", .type "BaseException", .type "object"] "ValueError.__new__" = true),
    fun K => decide (PySem.W.nsIn K mainGlobals "len" = some none),
    fun K => decide (PySem.W.nsIn K mainGlobals "range" = some none),
    fun K => decide (PySem.W.nsIn K mainGlobals "int" = some none),
    fun K => decide (PySem.W.nsIn K mainGlobals "tuple" = some none),
    fun K => decide (PySem.W.nsIn K mainGlobals "list" = some none),
    fun K => decide (PySem.W.nsIn K mainGlobals "isinstance" = some none),
    fun K => decide (PySem.W.nsIn K mainGlobals "min" = some none),
    fun K => decide (PySem.W.nsIn K mainGlobals "bool" = some none),
    fun K => decide (PySem.W.nsIn K mainGlobals "str" = some none),
    fun K => decide (PySem.W.nsIn K mainGlobals "gcd" = some (some (.builtin "math.gcd"))),
    fun K => decide (PySem.W.findIn K (.ref (He.ga K "BadStep")) "__getattribute__" = some (some (.builtin "BaseException.__getattribute__")))]
def exs3 : List (PySem.W.Frag → Bool) := [
    fun K => decide (PySem.W.findIn K (.ref (He.ga K "BadStep")) "__getattr__" = some none),
    fun K => decide (PySem.W.findIn K (.ref (He.ga K "BadStep")) "__class__" = some (some (.builtin "object.__class__"))),
    fun K => decide (PySem.W.mroIn K (He.ga K "BadStep") (.type "object") = some true),
    fun K => decide (PySem.W.subIn K (.ref (He.ga K "BadStep")) (.ref (He.ga K "BadStep")) = some true)]
abbrev R : PySem.W.OpenRow := PySem.W.OpenLaw.row PySem.Challenge.rw_tellsnone_k06_games_that_are_unlike
def file0 : Str := "/claim/cut.py"
def exs : HdF.Ex := [exs0, exs1, exs2, exs3]
def fns0 : List HdF.DefF := [
    ⟨("Ratio", some "__init__"), "__init__", "Ratio.__init__", defArgs s_Ratio_init, defBody s_Ratio_init, defScope s_Ratio_init, [.int 1], none⟩,
    ⟨("Bound", some "__init__"), "__init__", "Bound.__init__", defArgs s_Bound_init, defBody s_Bound_init, defScope s_Bound_init, [.non], none⟩,
    ⟨("nothing", none), "nothing", "nothing", defArgs s_nothing, defBody s_nothing, defScope s_nothing, [], none⟩,
    ⟨("Game", some "__init__"), "__init__", "Game.__init__", defArgs s_Game_init, defBody s_Game_init, defScope s_Game_init, [], none⟩,
    ⟨("Game", some "__eq__"), "__eq__", "Game.__eq__", defArgs s_Game_eq, defBody s_Game_eq, defScope s_Game_eq, [], none⟩,
    ⟨("changed_block", none), "changed_block", "changed_block", defArgs s_changed_block, defBody s_changed_block, defScope s_changed_block, [], none⟩,
    ⟨("with_changed_blocks", none), "with_changed_blocks", "with_changed_blocks", defArgs s_with_changed_blocks, defBody s_with_changed_blocks, defScope s_with_changed_blocks, [], none⟩,
    ⟨("with_changed_statements", none), "with_changed_statements", "with_changed_statements", defArgs s_with_changed_statements, defBody s_with_changed_statements, defScope s_with_changed_statements, [], none⟩,
    ⟨("without_inner", none), "without_inner", "without_inner", defArgs s_without_inner, defBody s_without_inner, defScope s_without_inner, [], none⟩,
    ⟨("until_bad", none), "until_bad", "until_bad", defArgs s_until_bad, defBody s_until_bad, defScope s_until_bad, [], none⟩,
    ⟨("alike", none), "alike", "alike", defArgs s_alike, defBody s_alike, defScope s_alike, [], none⟩,
    ⟨("Derivation", some "__init__"), "__init__", "Derivation.__init__", defArgs s_Derivation_init, defBody s_Derivation_init, defScope s_Derivation_init, [], none⟩,
    ⟨("Derivation", some "step"), "step", "Derivation.step", defArgs s_Derivation_step, defBody s_Derivation_step, defScope s_Derivation_step, [], none⟩,
    ⟨("behind", none), "behind", "behind", defArgs s_behind, defBody s_behind, defScope s_behind, [], none⟩,
    ⟨("behind_until", none), "behind_until", "behind_until", defArgs s_behind_until, defBody s_behind_until, defScope s_behind_until, [], none⟩,
    ⟨("_law_pool", none), "_law_pool", "_law_pool", defArgs s_law_pool, defBody s_law_pool, defScope s_law_pool, [], none⟩,
    ⟨("_law_draw", none), "_law_draw", "_law_draw", defArgs s_law_draw, defBody s_law_draw, defScope s_law_draw, [], none⟩,
    ⟨("_law_spend", none), "_law_spend", "_law_spend", defArgs s_law_spend, defBody s_law_spend, defScope s_law_spend, [], none⟩,
    ⟨("_law_number", none), "_law_number", "_law_number", defArgs s_law_number, defBody s_law_number, defScope s_law_number, [], none⟩,
    ⟨("_law_same", none), "_law_same", "_law_same", defArgs s_law_same, defBody s_law_same, defScope s_law_same, [], none⟩,
    ⟨("_law_expression", none), "_law_expression", "_law_expression", defArgs s_law_expression, defBody s_law_expression, defScope s_law_expression, [], none⟩,
    ⟨("_law_statement", none), "_law_statement", "_law_statement", defArgs s_law_statement, defBody s_law_statement, defScope s_law_statement, [], none⟩,
    ⟨("_law_block", none), "_law_block", "_law_block", defArgs s_law_block, defBody s_law_block, defScope s_law_block, [], none⟩,
    ⟨("_law_game", none), "_law_game", "_law_game", defArgs s_law_game, defBody s_law_game, defScope s_law_game, [], none⟩,
    ⟨("_law_value_named", none), "_law_value_named", "_law_value_named", defArgs s_law_value_named, defBody s_law_value_named, defScope s_law_value_named, [], none⟩,
    ⟨("_law_block_named", none), "_law_block_named", "_law_block_named", defArgs s_law_block_named, defBody s_law_block_named, defScope s_law_block_named, [], none⟩,
    ⟨("_law_named", none), "_law_named", "_law_named", defArgs s_law_named, defBody s_law_named, defScope s_law_named, [], none⟩,
    ⟨("_law_rows", none), "_law_rows", "_law_rows", defArgs s_law_rows, defBody s_law_rows, defScope s_law_rows, [], none⟩,
    ⟨("_law_procs", none), "_law_procs", "_law_procs", defArgs s_law_procs, defBody s_law_procs, defScope s_law_procs, [], none⟩,
    ⟨("_law_within", none), "_law_within", "_law_within", defArgs s_law_within, defBody s_law_within, defScope s_law_within, [], none⟩]
def fns1 : List HdF.DefF := [
    ⟨("_law_until", none), "_law_until", "_law_until", defArgs s_law_until, defBody s_law_until, defScope s_law_until, [], none⟩,
    ⟨("law", none), "law", "law", defArgs s_law, defBody s_law, defScope s_law, [], none⟩,
    ⟨("BadStep", some "__init__"), "__init__", "BadStep.__init__", defArgs s_BadStep_init, defBody s_BadStep_init, defScope s_BadStep_init, [], some "BadStep"⟩]
def fns : List HdF.DefF := fns0 ++ (fns1)
def tabs : List He.Tab := []
def names0 : List PySem.Str := ["__name__", "PlayError", "BadCall", "BadPlayer", "BadStep", "BadBound", "TooLarge", "CHUNK", "decimals", "Ratio", "Bound", "pairs", "smaller_limit", "nothing", "KEY_WORDS", "LETTERS", "DIGITS", "LONGEST_NAME", "is_name", "OPERATORS", "LOOKS", "FORMS", "MOST_DRAWN", "Game", "first_parts", "every_expression", "changed_expression", "every_statement", "inner_blocks", "own_expressions"]
def names1 : List PySem.Str := ["with_own_expressions", "changed_block", "with_changed_blocks", "with_changed_statements", "BAD", "expression_reads", "statement_reads", "block_reads", "proc_reads", "own_writes", "statement_writes", "disturbs", "reads_local", "alike", "until_bad", "without_inner", "counted", "most_puts", "puts_into", "counted_proc", "has_bad", "guard", "keys_of", "greater", "VALUES", "added", "subtracted", "multiplied", "divided", "remainder"]
def names2 : List PySem.Str := ["smaller", "same_value", "OPERATIONS", "operator_value", "MOST_WAYS", "Way", "value_at", "with_row", "Sizes", "Call", "MOST_KEPT", "first_state", "by_name", "in_order", "shares", "Memory", "Runner", "first_belief", "add_share", "whole", "behind_answers", "answer_shares", "MOST_LOOKS", "runners", "face", "apart", "greatest", "Search", "saying", "NEW_NAMES"]
def names3 : List PySem.Str := ["asks", "asks_in", "compose", "names_fit", "in_both", "locals_of", "statements_fit", "composed", "Asking", "renamed", "renamed_block", "renamed_statement", "fold", "folded", "worked_out", "folded_statement", "spell", "can_spell", "is_look", "spelled", "MOST_BEFORE_TOSS", "EVEN_DRAWS", "require", "proc_of", "statement_of", "pair_of", "with_proc", "replaced", "fold_step", "swap_step"]
def names4 : List PySem.Str := ["drop_step", "toss_step", "shift_step", "is_shift", "sink_step", "erase_step", "rows_of", "spell_step", "RULES", "same", "Derivation", "behind", "behind_back", "leads_to", "behind_until", "behind_reckon", "behind_inside", "_law_pool", "_law_draw", "_law_spend", "_law_number", "_law_same", "_law_expression", "_law_statement", "_law_block", "_law_game", "_law_value_named", "_law_block_named", "_law_named", "_law_rows"]
def names5 : List PySem.Str := ["_law_procs", "_law_within", "_law_until"]
def names : List PySem.Str := names0 ++ names1 ++ names2 ++ names3 ++ names4 ++ names5
def tlf : List (PySem.Str × Option PySem.Str) := [("until_bad", none)]
abbrev hk : PySem.W.Hook := HdT.hookT 7 file0 exs fns tabs tlf
def ob (s : PySem.W.SharedT) : HdT.AlT := HdT.obsTG 7 file0 exs fns tabs tlf (HandSHeadRun.getT s)
theorem ob_eq (s : PySem.W.SharedT) : ob s = hk.obs s.abs := HdT.obsTG_eq (HandSHeadRun.getT_eq s)
/-! ### the facts -/
theorem facts {l : PySem.W.OpenLaw} {w : World} {K : PySem.W.Frag} {h : Heap} {mg : Str → Option Value} {fa : Addr} (hP : PrF l.prog file0) (X : K.In h) (G : h.Ns mainGlobals mg) (hfa : mg "law" = some (.ref fa)) (c : HdF.Says file0 exs fns tabs w K) (ct : ∀ p ∈ tlf, HdT.TabIs h K p) :
    LamX.LawAtS l w K CX0 60 63 "script" mg fa h := by
  obtain ⟨_, _, _, _, _, _, _, _, _, _, _, _, its_Ratio_init, _, _, l_Ratio_init, c_Ratio_init, k_Ratio_init, dl_Ratio_init, vl_Ratio_init⟩ := c.dflt 0 (p := ("Ratio", some "__init__")) rfl
  obtain ⟨_, _, rfl, vl_Ratio_init'⟩ := HdF.vals_int vl_Ratio_init
  obtain rfl := HdF.vals_nil vl_Ratio_init'
  obtain ⟨_, _, _, _, _, _, _, _, _, _, _, _, its_Bound_init, _, _, l_Bound_init, c_Bound_init, k_Bound_init, dl_Bound_init, vl_Bound_init⟩ := c.dflt 1 (p := ("Bound", some "__init__")) rfl
  obtain ⟨_, rfl, vl_Bound_init'⟩ := HdF.vals_non vl_Bound_init
  obtain rfl := HdF.vals_nil vl_Bound_init'
  obtain ⟨_, _, _, _, _, _, _, _, _, l_nothing, c_nothing, k_nothing⟩ := c.plain 2 (p := ("nothing", none)) rfl
  obtain ⟨_, _, _, _, _, _, _, _, _, l_Game_init, c_Game_init, k_Game_init⟩ := c.plain 3 (p := ("Game", some "__init__")) rfl
  obtain ⟨_, _, _, _, _, _, _, _, _, l_Game_eq, c_Game_eq, k_Game_eq⟩ := c.plain 4 (p := ("Game", some "__eq__")) rfl
  obtain ⟨_, _, _, _, _, _, _, _, _, l_changed_block, c_changed_block, k_changed_block⟩ := c.plain 5 (p := ("changed_block", none)) rfl
  obtain ⟨_, _, _, _, _, _, _, _, _, l_with_changed_blocks, c_with_changed_blocks, k_with_changed_blocks⟩ := c.plain 6 (p := ("with_changed_blocks", none)) rfl
  obtain ⟨_, _, _, _, _, _, _, _, _, l_with_changed_statements, c_with_changed_statements, k_with_changed_statements⟩ := c.plain 7 (p := ("with_changed_statements", none)) rfl
  obtain ⟨_, _, _, _, _, _, _, _, _, l_without_inner, c_without_inner, k_without_inner⟩ := c.plain 8 (p := ("without_inner", none)) rfl
  obtain ⟨_, _, _, _, _, _, _, _, _, l_until_bad, c_until_bad, k_until_bad⟩ := c.plain 9 (p := ("until_bad", none)) rfl
  obtain ⟨_, _, _, _, _, _, _, _, _, l_alike, c_alike, k_alike⟩ := c.plain 10 (p := ("alike", none)) rfl
  obtain ⟨_, _, _, _, _, _, _, _, _, l_Derivation_init, c_Derivation_init, k_Derivation_init⟩ := c.plain 11 (p := ("Derivation", some "__init__")) rfl
  obtain ⟨_, _, _, _, _, _, _, _, _, l_Derivation_step, c_Derivation_step, k_Derivation_step⟩ := c.plain 12 (p := ("Derivation", some "step")) rfl
  obtain ⟨_, _, _, _, _, _, _, _, _, l_behind, c_behind, k_behind⟩ := c.plain 13 (p := ("behind", none)) rfl
  obtain ⟨_, _, _, _, _, _, _, _, _, l_behind_until, c_behind_until, k_behind_until⟩ := c.plain 14 (p := ("behind_until", none)) rfl
  obtain ⟨_, _, _, _, _, _, _, _, _, l_law_pool, c_law_pool, k_law_pool⟩ := c.plain 15 (p := ("_law_pool", none)) rfl
  obtain ⟨_, _, _, _, _, _, _, _, _, l_law_draw, c_law_draw, k_law_draw⟩ := c.plain 16 (p := ("_law_draw", none)) rfl
  obtain ⟨_, _, _, _, _, _, _, _, _, l_law_spend, c_law_spend, k_law_spend⟩ := c.plain 17 (p := ("_law_spend", none)) rfl
  obtain ⟨_, _, _, _, _, _, _, _, _, l_law_number, c_law_number, k_law_number⟩ := c.plain 18 (p := ("_law_number", none)) rfl
  obtain ⟨_, _, _, _, _, _, _, _, _, l_law_same, c_law_same, k_law_same⟩ := c.plain 19 (p := ("_law_same", none)) rfl
  obtain ⟨_, _, _, _, _, _, _, _, _, l_law_expression, c_law_expression, k_law_expression⟩ := c.plain 20 (p := ("_law_expression", none)) rfl
  obtain ⟨_, _, _, _, _, _, _, _, _, l_law_statement, c_law_statement, k_law_statement⟩ := c.plain 21 (p := ("_law_statement", none)) rfl
  obtain ⟨_, _, _, _, _, _, _, _, _, l_law_block, c_law_block, k_law_block⟩ := c.plain 22 (p := ("_law_block", none)) rfl
  obtain ⟨_, _, _, _, _, _, _, _, _, l_law_game, c_law_game, k_law_game⟩ := c.plain 23 (p := ("_law_game", none)) rfl
  obtain ⟨_, _, _, _, _, _, _, _, _, l_law_value_named, c_law_value_named, k_law_value_named⟩ := c.plain 24 (p := ("_law_value_named", none)) rfl
  obtain ⟨_, _, _, _, _, _, _, _, _, l_law_block_named, c_law_block_named, k_law_block_named⟩ := c.plain 25 (p := ("_law_block_named", none)) rfl
  obtain ⟨_, _, _, _, _, _, _, _, _, l_law_named, c_law_named, k_law_named⟩ := c.plain 26 (p := ("_law_named", none)) rfl
  obtain ⟨_, _, _, _, _, _, _, _, _, l_law_rows, c_law_rows, k_law_rows⟩ := c.plain 27 (p := ("_law_rows", none)) rfl
  obtain ⟨_, _, _, _, _, _, _, _, _, l_law_procs, c_law_procs, k_law_procs⟩ := c.plain 28 (p := ("_law_procs", none)) rfl
  obtain ⟨_, _, _, _, _, _, _, _, _, l_law_within, c_law_within, k_law_within⟩ := c.plain 29 (p := ("_law_within", none)) rfl
  obtain ⟨_, _, _, _, _, _, _, _, _, l_law_until, c_law_until, k_law_until⟩ := c.plain 30 (p := ("_law_until", none)) rfl
  obtain ⟨_, _, _, _, _, _, _, _, _, l_law, c_law, k_law⟩ := c.plain 31 (p := ("law", none)) rfl
  obtain ⟨_, _, _, _, _, _, _, _, _, _, _, _, _, _, _, _, _, _, li_BadStep_init, ci_BadStep_init, di_BadStep_init, vi_BadStep_init, xi_BadStep_init⟩ := c.init 32 (p := ("BadStep", some "__init__")) rfl
  obtain ⟨_, _, _, _, _, _, _, _, _, _, _, _, _, _, _, lc_BadStep_init, rm_BadStep_init⟩ := HdF.vex_ok (show HdF.vexB K (He.ga K "BadStep") = true from (c.get 0 0 rfl))
  obtain ⟨cda_until_bad, tb_until_bad, qc_until_bad, ch_until_bad, nt_until_bad, ht_until_bad⟩ := HdT.tab_of l_until_bad (ct ("until_bad", none) (by unfold tlf; simp))
  have o_n : PySem.W.specialIn K (.builtin "object.__class__") "__get__" = some (some (.builtin "getset_descriptor.__get__")) := of_decide_eq_true (c.get 0 1 rfl)
  have o_t : PySem.W.takesIn K (.builtin "object.__class__") = some true := of_decide_eq_true (c.get 0 2 rfl)
  have hC_Ratio : PySem.W.nsIn K mainGlobals "Ratio" = some (some (.ref (He.ga K "Ratio"))) := of_decide_eq_true (c.get 0 3 rfl)
  have pg_Ratio : PySem.W.plainGet K (He.ga K "Ratio") Str.empty = true := of_decide_eq_true (c.get 0 4 rfl)
  have hd_Ratio : PySem.W.hasDictIn K (He.ga K "Ratio") = true := of_decide_eq_true (c.get 0 5 rfl)
  have po_Ratio : PySem.W.plainOver K (He.ga K "Ratio") = true := of_decide_eq_true (c.get 0 6 rfl)
  have sa_Ratio : PySem.W.findIn K (.ref (He.ga K "Ratio")) "__setattr__" = some (some (.builtin "object.__setattr__")) := of_decide_eq_true (c.get 0 7 rfl)
  have mk_Ratio : PySem.W.makesIn K (He.ga K "Ratio") = true := of_decide_eq_true (c.get 0 8 rfl)
  have kc_Ratio : PySem.W.keepIn K (.ref (He.ga K "Ratio")) = true := of_decide_eq_true (c.get 0 9 rfl)
  have sf_Ratio : PySem.W.selfFirst K (He.ga K "Ratio") = true := of_decide_eq_true (c.get 0 10 rfl)
  have na_Ratio_num : PySem.W.findIn K (.ref (He.ga K "Ratio")) "num" = some none := of_decide_eq_true (c.get 0 11 rfl)
  have na_Ratio_den : PySem.W.findIn K (.ref (He.ga K "Ratio")) "den" = some none := of_decide_eq_true (c.get 0 12 rfl)
  have hC_Bound : PySem.W.nsIn K mainGlobals "Bound" = some (some (.ref (He.ga K "Bound"))) := of_decide_eq_true (c.get 0 13 rfl)
  have pg_Bound : PySem.W.plainGet K (He.ga K "Bound") Str.empty = true := of_decide_eq_true (c.get 0 14 rfl)
  have hd_Bound : PySem.W.hasDictIn K (He.ga K "Bound") = true := of_decide_eq_true (c.get 0 15 rfl)
  have po_Bound : PySem.W.plainOver K (He.ga K "Bound") = true := of_decide_eq_true (c.get 0 16 rfl)
  have sa_Bound : PySem.W.findIn K (.ref (He.ga K "Bound")) "__setattr__" = some (some (.builtin "object.__setattr__")) := of_decide_eq_true (c.get 0 17 rfl)
  have mk_Bound : PySem.W.makesIn K (He.ga K "Bound") = true := of_decide_eq_true (c.get 0 18 rfl)
  have kc_Bound : PySem.W.keepIn K (.ref (He.ga K "Bound")) = true := of_decide_eq_true (c.get 0 19 rfl)
  have sf_Bound : PySem.W.selfFirst K (He.ga K "Bound") = true := of_decide_eq_true (c.get 0 20 rfl)
  have na_Bound_flat : PySem.W.findIn K (.ref (He.ga K "Bound")) "flat" = some none := of_decide_eq_true (c.get 0 21 rfl)
  have na_Bound_first : PySem.W.findIn K (.ref (He.ga K "Bound")) "first" = some none := of_decide_eq_true (c.get 0 22 rfl)
  have na_Bound_more : PySem.W.findIn K (.ref (He.ga K "Bound")) "more" = some none := of_decide_eq_true (c.get 0 23 rfl)
  have na_Bound_limit : PySem.W.findIn K (.ref (He.ga K "Bound")) "limit" = some none := of_decide_eq_true (c.get 0 24 rfl)
  have hC_Game : PySem.W.nsIn K mainGlobals "Game" = some (some (.ref (He.ga K "Game"))) := of_decide_eq_true (c.get 0 25 rfl)
  have pg_Game : PySem.W.plainGet K (He.ga K "Game") Str.empty = true := of_decide_eq_true (c.get 0 26 rfl)
  have hd_Game : PySem.W.hasDictIn K (He.ga K "Game") = true := of_decide_eq_true (c.get 0 27 rfl)
  have po_Game : PySem.W.plainOver K (He.ga K "Game") = true := of_decide_eq_true (c.get 0 28 rfl)
  have sa_Game : PySem.W.findIn K (.ref (He.ga K "Game")) "__setattr__" = some (some (.builtin "object.__setattr__")) := of_decide_eq_true (c.get 0 29 rfl)
  have mk_Game : PySem.W.makesIn K (He.ga K "Game") = true := of_decide_eq_true (c.get 0 30 rfl)
  have kc_Game : PySem.W.keepIn K (.ref (He.ga K "Game")) = true := of_decide_eq_true (c.get 0 31 rfl)
  have sf_Game : PySem.W.selfFirst K (He.ga K "Game") = true := of_decide_eq_true (c.get 0 32 rfl)
  have na_Game_variables : PySem.W.findIn K (.ref (He.ga K "Game")) "variables" = some none := of_decide_eq_true (c.get 0 33 rfl)
  have na_Game_tables : PySem.W.findIn K (.ref (He.ga K "Game")) "tables" = some none := of_decide_eq_true (c.get 0 34 rfl)
  have na_Game_lots : PySem.W.findIn K (.ref (He.ga K "Game")) "lots" = some none := of_decide_eq_true (c.get 0 35 rfl)
  have na_Game_procs : PySem.W.findIn K (.ref (He.ga K "Game")) "procs" = some none := of_decide_eq_true (c.get 0 36 rfl)
  have ia_Game : PySem.W.findIn K (.ref (He.ga K "Game")) "__class__" = some (some (.builtin "object.__class__")) := of_decide_eq_true (c.get 0 37 rfl)
  have im_Game : PySem.W.mroIn K (He.ga K "Game") (.type "object") = some true := of_decide_eq_true (c.get 0 38 rfl)
  have ik_Game : PySem.W.kitOne K (.ref (He.ga K "Game")) (.ref (He.ga K "Game")) = some true := of_decide_eq_true (c.get 0 39 rfl)
  have hC_Derivation : PySem.W.nsIn K mainGlobals "Derivation" = some (some (.ref (He.ga K "Derivation"))) := of_decide_eq_true (c.get 1 0 rfl)
  have pg_Derivation : PySem.W.plainGet K (He.ga K "Derivation") Str.empty = true := of_decide_eq_true (c.get 1 1 rfl)
  have hd_Derivation : PySem.W.hasDictIn K (He.ga K "Derivation") = true := of_decide_eq_true (c.get 1 2 rfl)
  have po_Derivation : PySem.W.plainOver K (He.ga K "Derivation") = true := of_decide_eq_true (c.get 1 3 rfl)
  have sa_Derivation : PySem.W.findIn K (.ref (He.ga K "Derivation")) "__setattr__" = some (some (.builtin "object.__setattr__")) := of_decide_eq_true (c.get 1 4 rfl)
  have mk_Derivation : PySem.W.makesIn K (He.ga K "Derivation") = true := of_decide_eq_true (c.get 1 5 rfl)
  have kc_Derivation : PySem.W.keepIn K (.ref (He.ga K "Derivation")) = true := of_decide_eq_true (c.get 1 6 rfl)
  have sf_Derivation : PySem.W.selfFirst K (He.ga K "Derivation") = true := of_decide_eq_true (c.get 1 7 rfl)
  have na_Derivation_first : PySem.W.findIn K (.ref (He.ga K "Derivation")) "first" = some none := of_decide_eq_true (c.get 1 8 rfl)
  have na_Derivation_last : PySem.W.findIn K (.ref (He.ga K "Derivation")) "last" = some none := of_decide_eq_true (c.get 1 9 rfl)
  have na_Derivation_bound : PySem.W.findIn K (.ref (He.ga K "Derivation")) "bound" = some none := of_decide_eq_true (c.get 1 10 rfl)
  have h_Ratio_init : PySem.W.findIn K (.ref (He.ga K "Ratio")) "__init__" = some (some (.ref (He.ma K (He.ga K "Ratio") "__init__"))) := of_decide_eq_true (c.get 1 11 rfl)
  have i_Ratio_init : PySem.W.isFn K (.ref (He.ma K (He.ga K "Ratio") "__init__")) = true := of_decide_eq_true (c.get 1 12 rfl)
  have h_Bound_init : PySem.W.findIn K (.ref (He.ga K "Bound")) "__init__" = some (some (.ref (He.ma K (He.ga K "Bound") "__init__"))) := of_decide_eq_true (c.get 1 13 rfl)
  have i_Bound_init : PySem.W.isFn K (.ref (He.ma K (He.ga K "Bound") "__init__")) = true := of_decide_eq_true (c.get 1 14 rfl)
  have h_nothing : PySem.W.nsIn K mainGlobals "nothing" = some (some (.ref (He.ga K "nothing"))) := of_decide_eq_true (c.get 1 15 rfl)
  have h_Game_init : PySem.W.findIn K (.ref (He.ga K "Game")) "__init__" = some (some (.ref (He.ma K (He.ga K "Game") "__init__"))) := of_decide_eq_true (c.get 1 16 rfl)
  have i_Game_init : PySem.W.isFn K (.ref (He.ma K (He.ga K "Game") "__init__")) = true := of_decide_eq_true (c.get 1 17 rfl)
  have h_Game_eq : PySem.W.findIn K (.ref (He.ga K "Game")) "__eq__" = some (some (.ref (He.ma K (He.ga K "Game") "__eq__"))) := of_decide_eq_true (c.get 1 18 rfl)
  have i_Game_eq : PySem.W.isFn K (.ref (He.ma K (He.ga K "Game") "__eq__")) = true := of_decide_eq_true (c.get 1 19 rfl)
  have h_changed_block : PySem.W.nsIn K mainGlobals "changed_block" = some (some (.ref (He.ga K "changed_block"))) := of_decide_eq_true (c.get 1 20 rfl)
  have h_with_changed_blocks : PySem.W.nsIn K mainGlobals "with_changed_blocks" = some (some (.ref (He.ga K "with_changed_blocks"))) := of_decide_eq_true (c.get 1 21 rfl)
  have h_with_changed_statements : PySem.W.nsIn K mainGlobals "with_changed_statements" = some (some (.ref (He.ga K "with_changed_statements"))) := of_decide_eq_true (c.get 1 22 rfl)
  have h_without_inner : PySem.W.nsIn K mainGlobals "without_inner" = some (some (.ref (He.ga K "without_inner"))) := of_decide_eq_true (c.get 1 23 rfl)
  have h_until_bad : PySem.W.nsIn K mainGlobals "until_bad" = some (some (.ref (He.ga K "until_bad"))) := of_decide_eq_true (c.get 1 24 rfl)
  have h_alike : PySem.W.nsIn K mainGlobals "alike" = some (some (.ref (He.ga K "alike"))) := of_decide_eq_true (c.get 1 25 rfl)
  have h_Derivation_init : PySem.W.findIn K (.ref (He.ga K "Derivation")) "__init__" = some (some (.ref (He.ma K (He.ga K "Derivation") "__init__"))) := of_decide_eq_true (c.get 1 26 rfl)
  have i_Derivation_init : PySem.W.isFn K (.ref (He.ma K (He.ga K "Derivation") "__init__")) = true := of_decide_eq_true (c.get 1 27 rfl)
  have h_Derivation_step : PySem.W.findIn K (.ref (He.ga K "Derivation")) "step" = some (some (.ref (He.ma K (He.ga K "Derivation") "step"))) := of_decide_eq_true (c.get 1 28 rfl)
  have i_Derivation_step : PySem.W.isFn K (.ref (He.ma K (He.ga K "Derivation") "step")) = true := of_decide_eq_true (c.get 1 29 rfl)
  have h_behind : PySem.W.nsIn K mainGlobals "behind" = some (some (.ref (He.ga K "behind"))) := of_decide_eq_true (c.get 1 30 rfl)
  have h_behind_until : PySem.W.nsIn K mainGlobals "behind_until" = some (some (.ref (He.ga K "behind_until"))) := of_decide_eq_true (c.get 1 31 rfl)
  have h_law_pool : PySem.W.nsIn K mainGlobals "_law_pool" = some (some (.ref (He.ga K "_law_pool"))) := of_decide_eq_true (c.get 1 32 rfl)
  have h_law_draw : PySem.W.nsIn K mainGlobals "_law_draw" = some (some (.ref (He.ga K "_law_draw"))) := of_decide_eq_true (c.get 1 33 rfl)
  have h_law_spend : PySem.W.nsIn K mainGlobals "_law_spend" = some (some (.ref (He.ga K "_law_spend"))) := of_decide_eq_true (c.get 1 34 rfl)
  have h_law_number : PySem.W.nsIn K mainGlobals "_law_number" = some (some (.ref (He.ga K "_law_number"))) := of_decide_eq_true (c.get 1 35 rfl)
  have h_law_same : PySem.W.nsIn K mainGlobals "_law_same" = some (some (.ref (He.ga K "_law_same"))) := of_decide_eq_true (c.get 1 36 rfl)
  have h_law_expression : PySem.W.nsIn K mainGlobals "_law_expression" = some (some (.ref (He.ga K "_law_expression"))) := of_decide_eq_true (c.get 1 37 rfl)
  have h_law_statement : PySem.W.nsIn K mainGlobals "_law_statement" = some (some (.ref (He.ga K "_law_statement"))) := of_decide_eq_true (c.get 1 38 rfl)
  have h_law_block : PySem.W.nsIn K mainGlobals "_law_block" = some (some (.ref (He.ga K "_law_block"))) := of_decide_eq_true (c.get 1 39 rfl)
  have h_law_game : PySem.W.nsIn K mainGlobals "_law_game" = some (some (.ref (He.ga K "_law_game"))) := of_decide_eq_true (c.get 2 0 rfl)
  have h_law_value_named : PySem.W.nsIn K mainGlobals "_law_value_named" = some (some (.ref (He.ga K "_law_value_named"))) := of_decide_eq_true (c.get 2 1 rfl)
  have h_law_block_named : PySem.W.nsIn K mainGlobals "_law_block_named" = some (some (.ref (He.ga K "_law_block_named"))) := of_decide_eq_true (c.get 2 2 rfl)
  have h_law_named : PySem.W.nsIn K mainGlobals "_law_named" = some (some (.ref (He.ga K "_law_named"))) := of_decide_eq_true (c.get 2 3 rfl)
  have h_law_rows : PySem.W.nsIn K mainGlobals "_law_rows" = some (some (.ref (He.ga K "_law_rows"))) := of_decide_eq_true (c.get 2 4 rfl)
  have h_law_procs : PySem.W.nsIn K mainGlobals "_law_procs" = some (some (.ref (He.ga K "_law_procs"))) := of_decide_eq_true (c.get 2 5 rfl)
  have h_law_within : PySem.W.nsIn K mainGlobals "_law_within" = some (some (.ref (He.ga K "_law_within"))) := of_decide_eq_true (c.get 2 6 rfl)
  have h_law_until : PySem.W.nsIn K mainGlobals "_law_until" = some (some (.ref (He.ga K "_law_until"))) := of_decide_eq_true (c.get 2 7 rfl)
  have h_law : PySem.W.nsIn K mainGlobals "law" = some (some (.ref (He.ga K "law"))) := of_decide_eq_true (c.get 2 8 rfl)
  have hC_BadStep : PySem.W.nsIn K mainGlobals "BadStep" = some (some (.ref (He.ga K "BadStep"))) := of_decide_eq_true (c.get 2 9 rfl)
  have kc_BadStep : PySem.W.keepIn K (.ref (He.ga K "BadStep")) = true := of_decide_eq_true (c.get 2 10 rfl)
  have xb_BadStep : PySem.W.subIn K (.ref (He.ga K "BadStep")) (.type "BaseException") = some true := of_decide_eq_true (c.get 2 11 rfl)
  have xt_BadStep : PySem.W.typeIn K (.ref (He.ga K "BadStep")) = some (.type "type") := of_decide_eq_true (c.get 2 12 rfl)
  have xd_BadStep : PySem.W.hasDictIn K (He.ga K "BadStep") = true := of_decide_eq_true (c.get 2 13 rfl)
  have any_ : PySem.W.nsIn K cStatics "thirdparty.any" = some none := of_decide_eq_true (c.get 2 14 rfl)
  have zn_super : PySem.W.nsIn K mainGlobals "super" = some none := of_decide_eq_true (c.get 2 15 rfl)
  have hi_BadStep_init : PySem.W.findIn K (.ref (He.ga K "BadStep")) "__init__" = some (some (.ref (He.ma K (He.ga K "BadStep") "__init__"))) := of_decide_eq_true (c.get 2 16 rfl)
  have ti_BadStep_init : PySem.W.typeIn K (.ref (He.ma K (He.ga K "BadStep") "__init__")) = some (.type "function") := of_decide_eq_true (c.get 2 17 rfl)
  have si_BadStep_init : PySem.W.ks_superIn K (He.ga K "BadStep") (He.ga K "BadStep") "__init__" = some (some (.builtin "ValueError.__init__")) := of_decide_eq_true (c.get 2 18 rfl)
  have ui_BadStep_init : PySem.W.subIn K (.ref (He.ga K "BadStep")) (.type "ValueError") = some true := of_decide_eq_true (c.get 2 19 rfl)
  have mi_BadStep_init : PySem.W.mroIn K (He.ga K "BadStep") (.ref (He.ga K "BadStep")) = some true := of_decide_eq_true (c.get 2 20 rfl)
  have sa_BadStep_init : PySem.W.findIn K (.ref (He.ga K "BadStep")) "__setattr__" = some (some (.builtin "object.__setattr__")) := of_decide_eq_true (c.get 2 21 rfl)
  have no_BadStep_init : PySem.W.findIn K (.ref (He.ga K "BadStep")) "rule" = some none := of_decide_eq_true (c.get 2 22 rfl)
  have hC_BadBound : PySem.W.nsIn K mainGlobals "BadBound" = some (some (.ref (He.ga K "BadBound"))) := of_decide_eq_true (c.get 2 23 rfl)
  have kc_BadBound : PySem.W.keepIn K (.ref (He.ga K "BadBound")) = true := of_decide_eq_true (c.get 2 24 rfl)
  have xb_BadBound : PySem.W.subIn K (.ref (He.ga K "BadBound")) (.type "BaseException") = some true := of_decide_eq_true (c.get 2 25 rfl)
  have xt_BadBound : PySem.W.typeIn K (.ref (He.ga K "BadBound")) = some (.type "type") := of_decide_eq_true (c.get 2 26 rfl)
  have xd_BadBound : PySem.W.hasDictIn K (He.ga K "BadBound") = true := of_decide_eq_true (c.get 2 27 rfl)
  have x_BadBound : PySem.W.excIn K (He.ga K "BadBound") [.type "ValueError", .type "Exception", .type "BaseException", .type "object"] "ValueError.__new__" = true := of_decide_eq_true (c.get 2 28 rfl)
  have zn_len : PySem.W.nsIn K mainGlobals "len" = some none := of_decide_eq_true (c.get 2 29 rfl)
  have zn_range : PySem.W.nsIn K mainGlobals "range" = some none := of_decide_eq_true (c.get 2 30 rfl)
  have zn_int : PySem.W.nsIn K mainGlobals "int" = some none := of_decide_eq_true (c.get 2 31 rfl)
  have zn_tuple : PySem.W.nsIn K mainGlobals "tuple" = some none := of_decide_eq_true (c.get 2 32 rfl)
  have zn_list : PySem.W.nsIn K mainGlobals "list" = some none := of_decide_eq_true (c.get 2 33 rfl)
  have zn_isinstance : PySem.W.nsIn K mainGlobals "isinstance" = some none := of_decide_eq_true (c.get 2 34 rfl)
  have zn_min : PySem.W.nsIn K mainGlobals "min" = some none := of_decide_eq_true (c.get 2 35 rfl)
  have zn_bool : PySem.W.nsIn K mainGlobals "bool" = some none := of_decide_eq_true (c.get 2 36 rfl)
  have zn_str : PySem.W.nsIn K mainGlobals "str" = some none := of_decide_eq_true (c.get 2 37 rfl)
  have hg_gcd : PySem.W.nsIn K mainGlobals "gcd" = some (some (.builtin "math.gcd")) := of_decide_eq_true (c.get 2 38 rfl)
  have eg_BadStep : PySem.W.findIn K (.ref (He.ga K "BadStep")) "__getattribute__" = some (some (.builtin "BaseException.__getattribute__")) := of_decide_eq_true (c.get 2 39 rfl)
  have ek_BadStep : PySem.W.findIn K (.ref (He.ga K "BadStep")) "__getattr__" = some none := of_decide_eq_true (c.get 3 0 rfl)
  have ea_BadStep : PySem.W.findIn K (.ref (He.ga K "BadStep")) "__class__" = some (some (.builtin "object.__class__")) := of_decide_eq_true (c.get 3 1 rfl)
  have em_BadStep : PySem.W.mroIn K (He.ga K "BadStep") (.type "object") = some true := of_decide_eq_true (c.get 3 2 rfl)
  have xga_BadStep : PySem.W.findIn K (.ref (He.ga K "BadStep")) "__getattribute__" = some (some (.builtin "BaseException.__getattribute__")) := of_decide_eq_true (c.get 2 39 rfl)
  have xgg_BadStep : PySem.W.findIn K (.ref (He.ga K "BadStep")) "__getattr__" = some none := of_decide_eq_true (c.get 3 0 rfl)
  have sub_ss : PySem.W.subIn K (.ref (He.ga K "BadStep")) (.ref (He.ga K "BadStep")) = some true := of_decide_eq_true (c.get 3 3 rfl)
  obtain ⟨fd, hb, sp, hsp, hF⟩ := all_mk (tb_until_bad := tb_until_bad) X G hfa o_n o_t hC_Ratio pg_Ratio hd_Ratio po_Ratio sa_Ratio mk_Ratio kc_Ratio sf_Ratio na_Ratio_num na_Ratio_den hC_Bound pg_Bound hd_Bound po_Bound sa_Bound mk_Bound kc_Bound sf_Bound na_Bound_flat na_Bound_first na_Bound_more na_Bound_limit hC_Game pg_Game hd_Game po_Game sa_Game mk_Game kc_Game sf_Game na_Game_variables na_Game_tables na_Game_lots na_Game_procs ia_Game im_Game ik_Game hC_Derivation pg_Derivation hd_Derivation po_Derivation sa_Derivation mk_Derivation kc_Derivation sf_Derivation na_Derivation_first na_Derivation_last na_Derivation_bound h_Ratio_init i_Ratio_init l_Ratio_init dl_Ratio_init c_Ratio_init k_Ratio_init h_Bound_init i_Bound_init l_Bound_init dl_Bound_init c_Bound_init k_Bound_init h_nothing l_nothing c_nothing k_nothing h_Game_init i_Game_init l_Game_init c_Game_init k_Game_init h_Game_eq i_Game_eq l_Game_eq c_Game_eq k_Game_eq h_changed_block l_changed_block c_changed_block k_changed_block h_with_changed_blocks l_with_changed_blocks c_with_changed_blocks k_with_changed_blocks h_with_changed_statements l_with_changed_statements c_with_changed_statements k_with_changed_statements h_without_inner l_without_inner c_without_inner k_without_inner h_until_bad l_until_bad c_until_bad k_until_bad h_alike l_alike c_alike k_alike h_Derivation_init i_Derivation_init l_Derivation_init c_Derivation_init k_Derivation_init h_Derivation_step i_Derivation_step l_Derivation_step c_Derivation_step k_Derivation_step h_behind l_behind c_behind k_behind h_behind_until l_behind_until c_behind_until k_behind_until h_law_pool l_law_pool c_law_pool k_law_pool h_law_draw l_law_draw c_law_draw k_law_draw h_law_spend l_law_spend c_law_spend k_law_spend h_law_number l_law_number c_law_number k_law_number h_law_same l_law_same c_law_same k_law_same h_law_expression l_law_expression c_law_expression k_law_expression h_law_statement l_law_statement c_law_statement k_law_statement h_law_block l_law_block c_law_block k_law_block h_law_game l_law_game c_law_game k_law_game h_law_value_named l_law_value_named c_law_value_named k_law_value_named h_law_block_named l_law_block_named c_law_block_named k_law_block_named h_law_named l_law_named c_law_named k_law_named h_law_rows l_law_rows c_law_rows k_law_rows h_law_procs l_law_procs c_law_procs k_law_procs h_law_within l_law_within c_law_within k_law_within h_law_until l_law_until c_law_until k_law_until h_law l_law c_law k_law hC_BadStep kc_BadStep xb_BadStep xt_BadStep xd_BadStep any_ zn_super hi_BadStep_init ti_BadStep_init li_BadStep_init ci_BadStep_init di_BadStep_init vi_BadStep_init xi_BadStep_init si_BadStep_init ui_BadStep_init mi_BadStep_init lc_BadStep_init rm_BadStep_init sa_BadStep_init no_BadStep_init hC_BadBound kc_BadBound xb_BadBound xt_BadBound xd_BadBound x_BadBound zn_len zn_range zn_int zn_tuple zn_list zn_isinstance zn_min zn_bool zn_str hg_gcd qc_until_bad eg_BadStep ek_BadStep ea_BadStep em_BadStep xga_BadStep xgg_BadStep sub_ss hP
  refine ⟨fd, [(cda_until_bad, tb_until_bad)], sp, (fun p hp => by
    simp only [List.mem_cons, List.not_mem_nil, or_false] at hp
    rcases hp with rfl
    exact ht_until_bad), (fun p hp => by
    simp only [List.mem_cons, List.not_mem_nil, or_false] at hp
    rcases hp with rfl
    exact nt_until_bad), (fun p hp => by
    simp only [List.mem_cons, List.not_mem_nil, or_false] at hp
    rcases hp with rfl
    exact PySem.W.codeHd_of_K X ch_until_bad), hb, fun H a ns h1 _ h2 h3 => hsp H a ns h1 h2 h3, hF⟩
/-! ### the run -/
theorem runF (w : World) : HandSHeadRun.RunEqI R (PySem.W.view R.prog [0, 172]) hk ob 20000 names (w.withFollow "special-get-raises" false) := by
  unfold HandSHeadRun.RunEqI
  kernel_rfl
theorem runT (w : World) : HandSHeadRun.RunEqI R (PySem.W.view R.prog [0, 172]) hk ob 20000 names (w.withFollow "special-get-raises" true) := by
  unfold HandSHeadRun.RunEqI
  kernel_rfl
theorem run (w : World) : HandSHeadRun.RunEqI R (PySem.W.view R.prog [0, 172]) hk ob 20000 names w := PySem.W.byRow2 (P := fun w => HandSHeadRun.RunEqI R (PySem.W.view R.prog [0, 172]) hk ob 20000 names w) "special-get-raises" runF runT w
end Toy
open PySem PySem.W PySem.Calls PyProof.Rows
set_option maxRecDepth 100000 in
set_option maxHeartbeats 0 in
theorem PySem.Challenge.cw_tellsnone_k06_games_that_are_unlike_holds : PySem.Challenge.rw_tellsnone_k06_games_that_are_unlike.Holds := by
  w_on; o_law
  refine HandSHeadRun.head_imp (r := OpenLaw.row PySem.Challenge.rw_tellsnone_k06_games_that_are_unlike) (q := view (OpenLaw.row PySem.Challenge.rw_tellsnone_k06_games_that_are_unlike).prog [0, 172]) (H := Toy.hk) (ob := Toy.ob) (M := 20000) (loose := Toy.names) (d := HandSHeadRun.topDef (OpenLaw.row PySem.Challenge.rw_tellsnone_k06_games_that_are_unlike).prog 172) (kwd := []) Toy.ob_eq
    Toy.run (by kernel_rfl) (by kernel_rfl) (by kernel_rfl) (by rfl) (by first | assumption | decide +kernel) (by decide +kernel) ⟨rfl, rfl, rfl, rfl, rfl, by decide +kernel⟩ ?hw ?hc
  case hw => w_witness2
  case hc =>
    refine LamX.walk_ofTsE (l := PySem.Challenge.rw_tellsnone_k06_games_that_are_unlike) (n := 63) (k := 60) (x := "script") (CX := fun _ => L2.CX0) rfl (by decide) (by kernel_rfl) ⟨rfl, by decide, by decide⟩ ?F (fun _ _ _ _ _ z => z)
    intro w mg fa h Y G hmg0
    obtain ⟨K, KX, c, ct⟩ := Y
    have hmg : mg ("law" : PySem.Str) = some (.ref fa) := by
      have e : (HandSHeadRun.topDef (OpenLaw.row PySem.Challenge.rw_tellsnone_k06_games_that_are_unlike).prog 172).name = ("law" : PySem.Str) := by kernel_rfl
      rw [← e]
      exact hmg0
    exact ⟨K, KX, Toy.facts (l := PySem.Challenge.rw_tellsnone_k06_games_that_are_unlike) (w := w) ⟨rfl, rfl⟩ KX G hmg c ct⟩
