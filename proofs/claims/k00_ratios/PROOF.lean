import PyProof.Rows.All
import Wide.All
import OpenK.AllK
import Wide.FinOn
import HandS.ForExc
import HandS.OwnEq
import HandS.IsInst
import HandS.ExcIs
import HandS.ExcOwn
import HandS.Wide
import HandS.Gcd
import HandS.FStr
import HandS.Defaults
import HandS.SlotsOwn
import PyProof.FitsInt
import PySem.Challenge.RW_tellsnone_k00_ratios
set_option Elab.async false
set_option linter.all false
set_option maxRecDepth 100000
set_option maxHeartbeats 2000000
/-! Rules of my own over the hand layer: operators, ==, str of own instances; a call that makes an instance within a try; isinstance of a held error with several classes. -/
namespace Mine
open PySem PySem.Spec PyProof.Rows L2
section
variable {X : Cx} {CX : CXT} {C f : Addr} {fd : FuncData} {ps : List Str} {sp : Sp} {E : XK} {n : Nat}

/-- a binary operator of two instances of one class -/
def rOwn (C : Addr) (sp : Sp) (E : XK) : R2 := fun x y H Q => ∃ a b dx dy fs gs, x = .ref a ∧ y = .ref b ∧ H a = some (.ins C dx fs) ∧ H b = some (.ins C dy gs) ∧ sp [.ref a, .ref b] H Q E
theorem op_own {op : Operator} (F : FnOk X.prog X.w X.K X.mg X.base CX n f fd ps sp) (hr : Room n X.A) (hb : Binds X.K fd ps []) (hx : Passes CX X E)
    (hc : PySem.W.selfFirst X.K C = true) (hs : PySem.W.findIn X.K (.ref C) (PySem.dunder op.info.2) = some (some (.ref f))) (hf : PySem.W.isFn X.K (.ref f) = true) : OpR X (binaryOp op) (rOwn C sp E) := by
  intro pins s σ H x y v u Q I rx ry h
  obtain ⟨a, b, dx, dy, fs, gs, rfl, rfl, ha, hb', q⟩ := h
  cases rx
  cases ry
  obtain ⟨mA, J, _⟩ := ins_get I.hok ha
  obtain ⟨mB, J', _⟩ := ins_get I.hok hb'
  obtain ⟨od, J, _⟩ := J.look
  obtain ⟨od', J', _⟩ := J'.look
  obtain ⟨m, hF⟩ := I.fr
  refine PySem.W.binop_K hF I.ok.mod.kin J J'.type hc hs hf ?_
  have r2 : Vals [V.ref a, V.ref b] [Value.ref a, Value.ref b] := .cons rfl (.cons rfl .nil)
  refine wpAny_mono (run_fn (dvs := []) (ds := []) F hr hb .nil hx I r2 (by simpa using q)) (fun v s' hv => ?_) fun _ _ z => z
  obtain ⟨z, H', I', rz, q'⟩ := hv
  exact SlX.cmpback rz ⟨z, H', I', rz, q'⟩

/-- == of two instances of one class with an own __eq__ -/
theorem op_ownEq (F : FnOk X.prog X.w X.K X.mg X.base CX n f fd ps sp) (hr : Room n X.A) (hb : Binds X.K fd ps []) (hx : Passes CX X E)
    (hs : PySem.W.findIn X.K (.ref C) "__eq__" = some (some (.ref f))) (hf : PySem.W.isFn X.K (.ref f) = true) : OpR X (compareOp .Eq) (rOwn C sp E) := by
  intro pins s σ H x y v u Q I rx ry h
  obtain ⟨a, b, dx, dy, fs, gs, rfl, rfl, ha, hb', q⟩ := h
  cases rx
  cases ry
  obtain ⟨mA, J, _⟩ := ins_get I.hok ha
  obtain ⟨mB, J', _⟩ := ins_get I.hok hb'
  obtain ⟨od, J, _⟩ := J.look
  obtain ⟨od', J', _⟩ := J'.look
  obtain ⟨m, hF⟩ := I.fr
  show wpAny (model X.prog X.w) X.A (richCompare .Eq _ _) (EP X pins σ Q) X.xe s
  refine PySem.W.cmp_K (op := .Eq) (tb := .ref C) hr.units0 hF I.ok.mod.kin J J'.type (by simp [PySem.W.notFirst]) hs hf ?_
  have r2 : Vals [V.ref a, V.ref b] [Value.ref a, Value.ref b] := .cons rfl (.cons rfl .nil)
  refine wpAny_mono (run_fn (dvs := []) (ds := []) F hr hb .nil hx I r2 (by simpa using q)) (fun v s' hv => ?_) fun _ _ z => z
  obtain ⟨z, H', I', rz, q'⟩ := hv
  exact SlX.cmpback rz ⟨z, H', I', rz, q'⟩

theorem strback {P : Value → Shared → Prop} {z : Str} {v : Value} {s' : Shared} (r : RelV (.str z) v) (h : P v s') : PySem.W.StrBack P v s' := by
  obtain ⟨t, rfl⟩ := r
  exact h
/-- str(x) of an instance with an own __str__ -/
def rStrOwn (C : Addr) (sp : Sp) (E : XK) : List V → Hp → VK → Prop := fun xs H Q => ∃ a dx fs, xs = [.ref a] ∧ H a = some (.ins C dx fs) ∧ sp [.ref a] H (fun v H' => ∃ z, v = .str z ∧ Q (.str z) H') E
theorem call_strOwn (F : FnOk X.prog X.w X.K X.mg X.base CX n f fd ps sp) (hr : Room (n + 2) X.A) (hb : Binds X.K fd ps []) (hx : Passes CX X E)
    (hs : PySem.W.findIn X.K (.ref C) "__str__" = some (some (.ref f))) (hf : PySem.W.isFn X.K (.ref f) = true) : CallR X (.type "str") (rStrOwn C sp E) := by
  intro pins s σ H xs us Q I r h
  obtain ⟨a, dx, fs, rfl, ha, q⟩ := h
  obtain ⟨u, rfl, ru⟩ := vals1 r
  cases ru
  obtain ⟨mA, J, _⟩ := ins_get I.hok ha
  obtain ⟨od, J, _⟩ := J.look
  have hr2 : Room n X.A.in1.in1 := hr.in1.in1
  refine PySem.W.kso_call hr2.units0 I.kIn J hs hf ?_
  have e0 : Env0 X.prog X.w X.K X.mg X.base X.A.in1.in1 X.stack s H := by
    have e := I.env0
    exact ⟨e.frames, e.mod, e.bs, e.bsz, e.funs, e.frf, e.hok, e.bare⟩
  have hl := F.len _ _ _ _ q
  have r2 : Vals [V.ref a] [Value.ref a] := .cons rfl .nil
  refine wpAny_call (codeAny_mono (F.run _ X.stack s H ⟨[.ref a], []⟩ [.ref a] [.ref a] _ E hr2 e0 (by
    have := hb s [.ref a] I.kIn (by simpa using hl)
    simpa using this) r2 q) fun r s' hq => ?_)
  cases r with
  | error e => exact hx pins σ H s e s' I hq
  | ok fl =>
    cases fl with
    | ret w =>
      obtain ⟨z, H', I', rz, z', ez, q'⟩ := I.after hq
      subst ez
      exact strback rz ⟨.str z', H', I', rz, q'⟩
    | next => exact False.elim hq
    | brk => exact False.elim hq
    | cont => exact False.elim hq
end

/-! ### C(e, ..) that may raise, within a try body -/
section
variable {X : Cx} {CX : CXT} {k : Nat} {f C : Addr} {fd : FuncData} {ps : List Str} {sp : Sp} {E : L2.St → XK} {x : Str} {p pos : Pos} {e : Expr} {es : List Expr} {t : TA}
theorem run_makeS {pins : List (Addr × Obj)} {σ : L2.St} {H : Hp} {s : Shared} {Q : VK} {us : List Value} {vs : List V} (M : Mk X.K C f) (F : FnOk X.prog X.w X.K X.mg X.base CX k f fd ps sp) (hr : Room (k + 1) X.A) (hb : Binds X.K fd ps [])
    (hx : PassesAt CX X σ (E σ)) (I : Inv X pins σ H s) (r : Vals vs us)
    (h : ∀ x dx, H x = none → H dx = none → dx ≠ x → sp (.ref x :: vs) (upd (upd H dx (.own x)) x (.ins C dx [])) (fun v H2 => v = .non ∧ Q (.ref x) H2) (E σ)) :
    wpAny (model X.prog X.w) X.A (call (.ref C) us) (EP X pins σ Q) X.xe s := by
  have hq := h (s.heap.objs.size + 1) s.heap.objs.size (I.hok.fresh (Nat.le_succ _)) (I.hok.fresh (Nat.le_refl _)) (Nat.ne_of_lt (Nat.lt_succ_self _))
  have I2 := Inv.made (C := C) I
  have r2 : Vals (V.ref (s.heap.objs.size + 1) :: vs) (Value.ref (s.heap.objs.size + 1) :: us) := .cons rfl r
  have hl : (Value.ref (s.heap.objs.size + 1) :: us ++ []).length = ps.length := by
    have e := r2.length
    rw [F.len _ _ _ _ hq] at e
    rw [List.append_nil]
    exact e.symm
  refine wpAny_call ((make_map (f := f) I.kIn M.makes M.init (beq_iff_eq.mp M.fn) (codeAny_mono (F.run _ X.stack _ _ ⟨Value.ref (s.heap.objs.size + 1) :: us, []⟩ (Value.ref (s.heap.objs.size + 1) :: us) _ _ (E σ) (hr.make C us [])
    (I2.env0.make C us []) (by have z := hb _ (Value.ref (s.heap.objs.size + 1) :: us) I2.kIn hl; rw [List.append_nil] at z; exact z) r2 hq) fun r s' hq' => ?_)))
  cases r with
  | error e => exact hx pins _ _ e s' I2 hq'
  | ok fl =>
    cases fl with
    | ret u =>
      obtain ⟨v, H', I3, rv, ev, q3⟩ := I2.after hq'
      subst ev
      exact ⟨rv, ⟨V.ref (s.heap.objs.size + 1), H', I3, rfl, q3⟩⟩
    | next => exact False.elim hq'
    | brk => exact False.elim hq'
    | cont => exact False.elim hq'
end
/-- C(e, ..) within a try body -/
def tMakeS (C : Addr) (sp : Sp) (E : L2.St → XK) (t : TA) : TE := fun σ H Q => t σ H fun vs H1 => ∀ x dx, H1 x = none → H1 dx = none → dx ≠ x →
  sp (.ref x :: vs) (upd (upd H1 dx (.own x)) x (.ins C dx [])) (fun v H2 => v = .non ∧ Q (.ref x) H2) (E σ)
section
variable {X : Cx} {CX : CXT} {k : Nat} {f C : Addr} {fd : FuncData} {ps : List Str} {sp : Sp} {E : L2.St → XK} {x : Str} {p pos : Pos} {e : Expr} {es : List Expr} {t : TA}
theorem pe_makeS (M : Mk X.K C f) (F : FnOk X.prog X.w X.K X.mg X.base CX k f fd ps sp) (hr : Room (k + 1) X.A) (hg : Gl X x) (hm : X.mg x = some (.ref C)) (hb : L2.Binds X.K fd ps []) (hx : ∀ σ, PassesAt CX X σ (E σ))
    (ha : PA X (e :: es) t) (hdb : (x == ("__debug__" : Str)) = false := by decide) (he : starEach (e :: es) X.env = (false, eval e X.env) :: starEach es X.env := by rfl) (hpl : (backTo pos (starEach es X.env)).any (·.1) = false := by rfl) :
    PE X (.Call (.Name x p) (e :: es) [] pos) (tMakeS C sp E t) := by
  refine ⟨fun pins s σ H Q I h => ?_⟩
  refine wpAny_Call_Name_kw (ld_glob I hg hm ?_ hdb)
  refine PySem.W.callWith_K (h₀ := X.base) I.ok.mod.kin M.kp (thn (ha.run pos pins s σ H _ I h) fun us s1 ⟨vs, H1, I1, r, q⟩ => ⟨I1.kIn, ?_⟩) he hpl
  exact run_makeS M F hr hb (hx σ) I1 r q
end

/-! ### isinstance of the error that a suite holds -/
def rIsE1 (K : PySem.W.Frag) (D a : Addr) (cls : Value) (d : Option Addr) : List V → Hp → VK → Prop := fun xs H Q => ∃ (c : V) (cv : Value) (b : Bool), xs = [.ref a, c] ∧ cls = .ref D ∧ d = none ∧ (∀ u, RelV c u → u = cv) ∧ PySem.W.kitOne K (.ref D) cv = some b ∧ Q (.bl b) H
def rIsET (K : PySem.W.Frag) (D a : Addr) (cls : Value) (d : Option Addr) : List V → Hp → VK → Prop := fun xs H Q => ∃ (tp : Addr) (cs : List V) (us : List Value) (b : Bool), xs = [.ref a, .ref tp] ∧ cls = .ref D ∧ d = none ∧ H tp = some (.tup cs) ∧ Paired ClsV cs us ∧ PySem.W.kitAny K (.ref D) us = some b ∧ Q (.bl b) H
section
variable {X : Cx} {a D : Addr} {oe : Obj} {pn : List (Addr × Obj)} {cls : Value} {d : Option Addr}
theorem call_isE1 (C : ExcC X.K D) (hz : Zc cls d oe) (hf : ∃ vs, oe.data = .fields vs) : CallR (X.suite a ((a, oe) :: pn)) (.builtin "isinstance") (rIsE1 X.K D a cls d) := by
  intro pins s σ H xs us Q I r h
  obtain ⟨c, cv, b, e1, rfl, rfl, hcv, e, q⟩ := h
  exact call_isE C hz hf pins s σ H xs us Q I r ⟨c, cv, b, e1, hcv, e, q⟩
theorem call_isET (C : ExcC X.K D) (hz : Zc cls d oe) (hf : ∃ vs, oe.data = .fields vs) : CallR (X.suite a ((a, oe) :: pn)) (.builtin "isinstance") (rIsET X.K D a cls d) := by
  intro pins s σ H xs us Q I r h
  obtain ⟨tp, cs, ws, b, rfl, rfl, rfl, hT, k, e, q⟩ := h
  obtain ⟨u1, u2, rfl, r1, r2⟩ := vals2 r
  cases (show u1 = Value.ref a from r1)
  cases (show u2 = Value.ref tp from r2)
  obtain ⟨hget, _⟩ := I.pin (a, oe) (List.mem_append.mpr (.inl List.mem_cons_self))
  obtain ⟨vs, hv⟩ := hf
  have J : PySem.W.InstAt s.heap a oe D none := by
    obtain ⟨oc, od, oda, osl⟩ := oe
    obtain ⟨h1, h2⟩ := hz
    dsimp only at h1 h2 hv
    subst h1 h2 hv
    exact ⟨hget, rfl, rfl, trivial⟩
  obtain ⟨_, its, rv, o, h1, h2, n, h3⟩ := (show ObjOk X.prog X.w H s.heap tp (.tup cs) from I.hok tp _ hT)
  have e3 := ClsV.all k rv
  subst e3
  obtain ⟨oc, od, dt, sl⟩ := o
  simp only at h2 h3
  subst h2 h3
  exact PySem.W.kia_tup (PySem.W.handS_kitx_exc C.hg C.hk C.hs C.hd C.ha C.hn C.ht C.hm) I.kIn J h1 e (fun z => nomatch z) fun tk => ⟨.bl b, H, I.kept (t' := tk) fun _ _ z => z, rfl, q⟩
end

/-! ### small words -/
theorem same_new {H : Hp} {p : Addr} (h : H p = none) (o : HO) : Same H (upd H p o) := fun b u q => by rw [upd_ne (ne_of_none q h)]; exact q
theorem same_make {H : Hp} {x dx C : Addr} (nx : H x = none) (nd : H dx = none) : Same H (upd (upd H dx (.own x)) x (.ins C dx [])) := fun b o e => by
  rw [upd_ne (ne_of_none e nx), upd_ne (ne_of_none e nd)]
  exact e
theorem ite_no {c A B : Prop} [Decidable c] (hc : ¬ c) (h : B) : if c then A else B := by rw [if_neg hc]; exact h
theorem ite_yes {c A B : Prop} [Decidable c] (hc : c) (h : A) : if c then A else B := by rw [if_pos hc]; exact h
end Mine

set_option Elab.async false
/-! Mathematics of fractions in lowest terms. -/
namespace Mine
/-- the fraction n / d in lowest terms (d positive) -/
def red (n d : Int) : Int × Int := (n / ((Nat.gcd n.natAbs d.natAbs : Nat) : Int), d / ((Nat.gcd n.natAbs d.natAbs : Nat) : Int))
theorem gcd_pos {n d : Int} (h : 0 < d) : 0 < Nat.gcd n.natAbs d.natAbs := Nat.gcd_pos_of_pos_right _ (by omega)
/-- n = g * p, d = g * q with p, q coprime -/
theorem red_spec {n d : Int} (h : 0 < d) : ∃ g : Nat, 0 < g ∧ n = g * (red n d).1 ∧ d = g * (red n d).2 ∧ Nat.gcd (red n d).1.natAbs (red n d).2.natAbs = 1 := by
  have gp := gcd_pos (n := n) h
  refine ⟨Nat.gcd n.natAbs d.natAbs, gp, ?_, ?_, ?_⟩
  · have hd : ((Nat.gcd n.natAbs d.natAbs : Nat) : Int) ∣ n := Int.ofNat_dvd_left.mpr (Nat.gcd_dvd_left _ _)
    exact (Int.mul_ediv_cancel' hd).symm
  · have hd : ((Nat.gcd n.natAbs d.natAbs : Nat) : Int) ∣ d := Int.ofNat_dvd_left.mpr (Nat.gcd_dvd_right _ _)
    exact (Int.mul_ediv_cancel' hd).symm
  · have hn : ((Nat.gcd n.natAbs d.natAbs : Nat) : Int) ∣ n := Int.ofNat_dvd_left.mpr (Nat.gcd_dvd_left _ _)
    have hd : ((Nat.gcd n.natAbs d.natAbs : Nat) : Int) ∣ d := Int.ofNat_dvd_left.mpr (Nat.gcd_dvd_right _ _)
    show Nat.gcd (n / ((Nat.gcd n.natAbs d.natAbs : Nat) : Int)).natAbs (d / ((Nat.gcd n.natAbs d.natAbs : Nat) : Int)).natAbs = 1
    rw [Int.natAbs_ediv_of_dvd hn, Int.natAbs_ediv_of_dvd hd, Int.natAbs_natCast]
    rw [Nat.gcd_div (Nat.gcd_dvd_left _ _) (Nat.gcd_dvd_right _ _)]
    exact Nat.div_self gp
theorem red_pos {n d : Int} (h : 0 < d) : 0 < (red n d).2 := by
  obtain ⟨g, g0, _, e2, _⟩ := red_spec (n := n) h
  have hg : (0 : Int) < g := by omega
  have : 0 < (g : Int) * (red n d).2 := by rw [← e2]; exact h
  exact Int.pos_of_mul_pos_right this (by omega)
theorem red_le {n d : Int} (h : 0 < d) : (red n d).1.natAbs ≤ n.natAbs ∧ (red n d).2.natAbs ≤ d.natAbs := by
  obtain ⟨g, g0, e1, e2, _⟩ := red_spec (n := n) h
  constructor
  · have e := congrArg Int.natAbs e1
    rw [Int.natAbs_mul, Int.natAbs_natCast] at e
    rw [e]
    exact Nat.le_mul_of_pos_left _ g0
  · have e := congrArg Int.natAbs e2
    rw [Int.natAbs_mul, Int.natAbs_natCast] at e
    exact Nat.le_trans (Nat.le_mul_of_pos_left _ g0) (Nat.le_of_eq e.symm)
theorem low_unique {p q p' q' : Int} (hq : 0 < q) (hq' : 0 < q') (c : Nat.gcd p.natAbs q.natAbs = 1) (c' : Nat.gcd p'.natAbs q'.natAbs = 1) (e : p * q' = p' * q) : p = p' ∧ q = q' := by
  have en : p.natAbs * q'.natAbs = p'.natAbs * q.natAbs := by
    have := congrArg Int.natAbs e
    rwa [Int.natAbs_mul, Int.natAbs_mul] at this
  have d1 : q.natAbs ∣ q'.natAbs := by
    have z : q.natAbs ∣ p.natAbs * q'.natAbs := by rw [en]; exact Nat.dvd_mul_left _ _
    exact Nat.Coprime.dvd_of_dvd_mul_left (Nat.Coprime.symm c) z
  have d2 : q'.natAbs ∣ q.natAbs := by
    have z : q'.natAbs ∣ p'.natAbs * q.natAbs := by rw [← en]; exact Nat.dvd_mul_left _ _
    exact Nat.Coprime.dvd_of_dvd_mul_left (Nat.Coprime.symm c') z
  have eq : q.natAbs = q'.natAbs := Nat.dvd_antisymm d1 d2
  have eq' : q = q' := by omega
  subst eq'
  exact ⟨Int.eq_of_mul_eq_mul_right (by omega) e, rfl⟩
theorem red_eq {n d n' d' : Int} (h : 0 < d) (h' : 0 < d') (e : n * d' = n' * d) : red n d = red n' d' := by
  obtain ⟨g, g0, e1, e2, c⟩ := red_spec (n := n) h
  obtain ⟨g', g0', e1', e2', c'⟩ := red_spec (n := n') h'
  have q0 := red_pos (n := n) h
  have q0' := red_pos (n := n') h'
  generalize red n d = r at *
  generalize red n' d' = r' at *
  obtain ⟨p, q⟩ := r
  obtain ⟨p', q'⟩ := r'
  dsimp only at *
  have hg : (0 : Int) < g := by omega
  have hg' : (0 : Int) < g' := by omega
  have hgg : (0 : Int) < g * g' := Int.mul_pos hg hg'
  have x : (g * g' : Int) * (p * q') = (g * g' : Int) * (p' * q) := by
    have y := e
    rw [e1, e2', e1', e2] at y
    have l : (g * p : Int) * (g' * q') = (g * g' : Int) * (p * q') := by ac_rfl
    have r : (g' * p' : Int) * (g * q) = (g * g' : Int) * (p' * q) := by ac_rfl
    rw [← l, ← r]
    exact y
  have z := Int.eq_of_mul_eq_mul_left (by omega) x
  obtain ⟨a, b⟩ := low_unique q0 q0' c c' z
  rw [a, b]
theorem red_of {n d : Int} (h : 0 < d) : (red n d).1 * d = n * (red n d).2 := by
  obtain ⟨g, g0, e1, e2, c⟩ := red_spec (n := n) h
  generalize red n d = r at *
  obtain ⟨p, q⟩ := r
  dsimp only at *
  rw [e1, e2]
  ac_rfl
/-- the two fractions' sum, difference, product from their lowest terms -/
theorem mul_swap4 (a b c d : Int) : a * b * (c * d) = a * c * (b * d) := by ac_rfl
theorem red_add {a b c d : Int} (hb : 0 < b) (hd : 0 < d) : red ((red a b).1 * (red c d).2 + (red c d).1 * (red a b).2) ((red a b).2 * (red c d).2) = red (a * d + c * b) (b * d) := by
  have h1 := red_of (n := a) hb
  have h2 := red_of (n := c) hd
  have p1 := red_pos (n := a) hb
  have p2 := red_pos (n := c) hd
  generalize red a b = r at *
  generalize red c d = r' at *
  obtain ⟨p, q⟩ := r
  obtain ⟨p', q'⟩ := r'
  dsimp only at *
  refine red_eq (Int.mul_pos p1 p2) (Int.mul_pos hb hd) ?_
  rw [Int.add_mul, Int.add_mul]
  have x1 : p * q' * (b * d) = a * d * (q * q') := by
    have : p * q' * (b * d) = (p * b) * (q' * d) := by ac_rfl
    rw [this, h1]
    ac_rfl
  have x2 : p' * q * (b * d) = c * b * (q * q') := by
    have : p' * q * (b * d) = (p' * d) * (q * b) := by ac_rfl
    rw [this, h2]
    ac_rfl
  rw [x1, x2]
theorem red_sub {a b c d : Int} (hb : 0 < b) (hd : 0 < d) : red ((red a b).1 * (red c d).2 - (red c d).1 * (red a b).2) ((red a b).2 * (red c d).2) = red (a * d - c * b) (b * d) := by
  have h1 := red_of (n := a) hb
  have h2 := red_of (n := c) hd
  have p1 := red_pos (n := a) hb
  have p2 := red_pos (n := c) hd
  generalize red a b = r at *
  generalize red c d = r' at *
  obtain ⟨p, q⟩ := r
  obtain ⟨p', q'⟩ := r'
  dsimp only at *
  refine red_eq (Int.mul_pos p1 p2) (Int.mul_pos hb hd) ?_
  rw [Int.sub_mul, Int.sub_mul]
  have x1 : p * q' * (b * d) = a * d * (q * q') := by
    have : p * q' * (b * d) = (p * b) * (q' * d) := by ac_rfl
    rw [this, h1]
    ac_rfl
  have x2 : p' * q * (b * d) = c * b * (q * q') := by
    have : p' * q * (b * d) = (p' * d) * (q * b) := by ac_rfl
    rw [this, h2]
    ac_rfl
  rw [x1, x2]
theorem red_mul {a b c d : Int} (hb : 0 < b) (hd : 0 < d) : red ((red a b).1 * (red c d).1) ((red a b).2 * (red c d).2) = red (a * c) (b * d) := by
  have h1 := red_of (n := a) hb
  have h2 := red_of (n := c) hd
  have p1 := red_pos (n := a) hb
  have p2 := red_pos (n := c) hd
  generalize red a b = r at *
  generalize red c d = r' at *
  obtain ⟨p, q⟩ := r
  obtain ⟨p', q'⟩ := r'
  dsimp only at *
  refine red_eq (Int.mul_pos p1 p2) (Int.mul_pos hb hd) ?_
  have : p * p' * (b * d) = (p * b) * (p' * d) := by ac_rfl
  rw [this, h1, h2]
  ac_rfl
theorem red_lt {a b c d : Int} (hb : 0 < b) (hd : 0 < d) : ((red a b).1 * (red c d).2 < (red c d).1 * (red a b).2) ↔ (a * d < c * b) := by
  obtain ⟨g, g0, e1, e2, _⟩ := red_spec (n := a) hb
  obtain ⟨g', g0', e1', e2', _⟩ := red_spec (n := c) hd
  generalize red a b = r at *
  generalize red c d = r' at *
  obtain ⟨p, q⟩ := r
  obtain ⟨p', q'⟩ := r'
  dsimp only at *
  have hgg : (0 : Int) < (g : Int) * g' := Int.mul_pos (by omega) (by omega)
  have l : a * d = (g * g' : Int) * (p * q') := by rw [e1, e2']; ac_rfl
  have r : c * b = (g * g' : Int) * (p' * q) := by rw [e1', e2]; ac_rfl
  rw [l, r]
  exact ⟨fun h => Int.mul_lt_mul_of_pos_left h hgg, fun h => Int.lt_of_mul_lt_mul_left h (Int.le_of_lt hgg)⟩
theorem red_eq_iff {a b c d : Int} (hb : 0 < b) (hd : 0 < d) : (red a b = red c d) ↔ (a * d = c * b) := by
  refine ⟨fun h => ?_, fun h => red_eq hb hd h⟩
  have h1 := red_of (n := a) hb
  have h2 := red_of (n := c) hd
  have p1 := red_pos (n := a) hb
  rw [← h] at h2
  generalize red a b = r at *
  obtain ⟨p, q⟩ := r
  dsimp only at *
  have x : q * (a * d) = q * (c * b) := by
    have y1 : q * (a * d) = (a * q) * d := by ac_rfl
    have y2 : q * (c * b) = (c * q) * b := by ac_rfl
    rw [y1, y2, ← h1, ← h2]
    ac_rfl
  exact Int.eq_of_mul_eq_mul_left (by omega) x
/-! ### Euclid's loop -/
/-- what holds ahead of turn i of the loop over (a, b), g the greatest common divisor of the start -/
def Euc (g P : Nat) (i : Nat) (a b : Int) : Prop := 0 ≤ a ∧ 0 ≤ b ∧ (0 < a ∨ 0 < b) ∧ Nat.gcd a.natAbs b.natAbs = g ∧ a.natAbs * b.natAbs * 2 ^ (i - 1) ≤ P ∧ (i = 0 ∨ b < a) ∧ a.natAbs ≤ P ∧ b.natAbs ≤ P
theorem euc_start {a b : Int} (ha : 0 ≤ a) (hb : 0 < b) {P : Nat} (h1 : a.natAbs * b.natAbs ≤ P) (h2 : a.natAbs ≤ P) (h3 : b.natAbs ≤ P) : Euc (Nat.gcd a.natAbs b.natAbs) P 0 a b :=
  ⟨ha, by omega, .inr hb, rfl, by simpa using h1, .inl rfl, h2, h3⟩
theorem euc_turn {g P i : Nat} {a b : Int} (h : Euc g P i a b) (hb : b ≠ 0) : Euc g P (i + 1) b (a % b) := by
  obtain ⟨a0, b0, _, hg, hp, hi, la, lb⟩ := h
  have bp : 0 < b := by omega
  have m0 := Int.emod_nonneg a (by omega : b ≠ 0)
  have m1 := Int.emod_lt_of_pos a bp
  obtain ⟨x, rfl⟩ := Int.eq_ofNat_of_zero_le a0
  obtain ⟨y, rfl⟩ := Int.eq_ofNat_of_zero_le b0
  have em : ((x : Int) % (y : Int)).natAbs = x % y := by rw [← Int.natCast_emod, Int.natAbs_natCast]
  rw [Int.natAbs_natCast, Int.natAbs_natCast] at hg hp
  rw [Int.natAbs_natCast] at la lb
  have yp : 0 < y := by omega
  have ml : x % y < y := Nat.mod_lt _ yp
  refine ⟨b0, m0, .inl bp, ?_, ?_, .inr m1, ?_, ?_⟩
  · rw [em, Int.natAbs_natCast, ← hg, Nat.gcd_comm x y, Nat.gcd_rec y x, Nat.gcd_comm]
  · rw [em, Int.natAbs_natCast]
    have hk : x % y ≤ x := Nat.mod_le _ _
    rcases hi with hi | hi
    · subst hi
      show y * (x % y) * 2 ^ 0 ≤ P
      have : y * (x % y) ≤ y * x := Nat.mul_le_mul_left _ hk
      rw [Nat.pow_zero, Nat.mul_one]
      refine Nat.le_trans this ?_
      rw [Nat.mul_comm]
      simpa using hp
    · have lt : y < x := by omega
      have half : 2 * (x % y) ≤ x := by
        have e := Nat.div_add_mod x y
        have d1 : 1 ≤ x / y := (Nat.one_le_div_iff yp).mpr (by omega)
        have : y ≤ y * (x / y) := Nat.le_mul_of_pos_right _ (by omega)
        omega
      cases i with
      | zero =>
        show y * (x % y) * 2 ^ 0 ≤ P
        have : y * (x % y) ≤ y * x := Nat.mul_le_mul_left _ hk
        rw [Nat.pow_zero, Nat.mul_one]
        refine Nat.le_trans this ?_
        rw [Nat.mul_comm]
        simpa using hp
      | succ j =>
        show y * (x % y) * 2 ^ (j + 1) ≤ P
        have e : y * (x % y) * 2 ^ (j + 1) = (y * (2 * (x % y))) * 2 ^ j := by rw [Nat.pow_succ]; ac_rfl
        rw [e]
        have q : x * y * 2 ^ j ≤ P := hp
        refine Nat.le_trans (Nat.mul_le_mul_right _ ?_) q
        rw [Nat.mul_comm x y]
        exact Nat.mul_le_mul_left _ half
  · rw [Int.natAbs_natCast]; exact lb
  · rw [em]; omega
theorem euc_end {g P i : Nat} {a : Int} (h : Euc g P i a 0) : a = (g : Int) ∧ 0 < a := by
  obtain ⟨a0, _, hz, hg, _⟩ := h
  rw [Int.natAbs_zero, Nat.gcd_zero_right] at hg
  omega
theorem euc_over {g P i : Nat} {a b : Int} (h : Euc g P (i + 1) a b) (hP : P < 2 ^ i) : b = 0 := by
  obtain ⟨a0, b0, hz, _, hp, hi, _⟩ := h
  rcases hi with hi | hi
  · omega
  by_cases q : b = 0
  · exact q
  · exfalso
    have h1 : 1 ≤ a.natAbs * b.natAbs := Nat.mul_pos (by omega) (by omega)
    have h2 : 2 ^ i ≤ a.natAbs * b.natAbs * 2 ^ i := Nat.le_mul_of_pos_left _ h1
    have h3 : a.natAbs * b.natAbs * 2 ^ (i + 1 - 1) ≤ P := hp
    rw [Nat.add_sub_cancel] at h3
    omega
end Mine

set_option Elab.async false
set_option linter.all false
set_option maxRecDepth 100000
set_option maxHeartbeats 4000000
namespace Toy
open PySem L2 Mine
def top (i : Nat) : Stmt := PySem.Challenge.pw_tellsnone_k00_ratios.main.body.getD i (.Pass ⟨0, 0, 0, 0⟩)
abbrev s_decimals : Stmt := top 12
theorem sc_decimals : FnScope ["number", "rest", "parts", "part"] ["number"] (defScope s_decimals) := ⟨rfl, rfl, rfl, by decide +kernel, rfl, by decide +kernel, by decide +kernel⟩
abbrev s_Ratio_init : Stmt := inClass (top 13) 0
theorem sc_Ratio_init : FnScope ["self", "num", "den", "common"] ["self", "num", "den"] (defScope s_Ratio_init) := ⟨rfl, rfl, rfl, by decide +kernel, rfl, by decide +kernel, by decide +kernel⟩
abbrev s_Ratio_add : Stmt := inClass (top 13) 1
theorem sc_Ratio_add : FnScope ["self", "other"] ["self", "other"] (defScope s_Ratio_add) := ⟨rfl, rfl, rfl, by decide +kernel, rfl, by decide +kernel, by decide +kernel⟩
abbrev s_Ratio_sub : Stmt := inClass (top 13) 2
theorem sc_Ratio_sub : FnScope ["self", "other"] ["self", "other"] (defScope s_Ratio_sub) := ⟨rfl, rfl, rfl, by decide +kernel, rfl, by decide +kernel, by decide +kernel⟩
abbrev s_Ratio_mul : Stmt := inClass (top 13) 3
theorem sc_Ratio_mul : FnScope ["self", "other"] ["self", "other"] (defScope s_Ratio_mul) := ⟨rfl, rfl, rfl, by decide +kernel, rfl, by decide +kernel, by decide +kernel⟩
abbrev s_Ratio_eq : Stmt := inClass (top 13) 4
theorem sc_Ratio_eq : FnScope ["self", "other"] ["self", "other"] (defScope s_Ratio_eq) := ⟨rfl, rfl, rfl, by decide +kernel, rfl, by decide +kernel, by decide +kernel⟩
abbrev s_Ratio_str : Stmt := inClass (top 13) 5
theorem sc_Ratio_str : FnScope ["self"] ["self"] (defScope s_Ratio_str) := ⟨rfl, rfl, rfl, by decide +kernel, rfl, by decide +kernel, by decide +kernel⟩
abbrev s_Ratio_below : Stmt := inClass (top 13) 6
theorem sc_Ratio_below : FnScope ["self", "other"] ["self", "other"] (defScope s_Ratio_below) := ⟨rfl, rfl, rfl, by decide +kernel, rfl, by decide +kernel, by decide +kernel⟩
abbrev s_law_cell : Stmt := top 15
theorem sc_law_cell : FnScope ["script", "k"] ["script", "k"] (defScope s_law_cell) := ⟨rfl, rfl, rfl, by decide +kernel, rfl, by decide +kernel, by decide +kernel⟩
abbrev s_law_is_integer : Stmt := top 16
theorem sc_law_is_integer : FnScope ["actual"] ["actual"] (defScope s_law_is_integer) := ⟨rfl, rfl, rfl, by decide +kernel, rfl, by decide +kernel, by decide +kernel⟩
abbrev s_law_less : Stmt := top 18
theorem sc_law_less : FnScope ["num", "den", "a", "b", "k", "c"] ["num", "den"] (defScope s_law_less) := ⟨rfl, rfl, rfl, by decide +kernel, rfl, by decide +kernel, by decide +kernel⟩
abbrev s_law_is : Stmt := top 21
theorem sc_law_is : FnScope ["actual", "num", "den", "due", "text"] ["actual", "num", "den"] (defScope s_law_is) := ⟨rfl, rfl, rfl, by decide +kernel, rfl, by decide +kernel, by decide +kernel⟩
abbrev s_law_refused : Stmt := top 22
theorem sc_law_refused : FnScope ["num", "den", "e"] ["num", "den"] (defScope s_law_refused) := ⟨rfl, rfl, rfl, by decide +kernel, rfl, by decide +kernel, by decide +kernel⟩
abbrev s_law : Stmt := top 23
theorem sc_law : FnScope ["script", "k", "a", "c", "b", "d", "one", "other", "told"] ["script"] (defScope s_law) := ⟨rfl, rfl, rfl, by decide +kernel, rfl, by decide +kernel, by decide +kernel⟩
/-! ### a ratio's attributes -/
theorem nd_ : ¬ (("num" : Str) = "den") := by decide +kernel
theorem dn_ : ¬ (("den" : Str) = "num") := by decide +kernel
def rf (n d : Int) : List (Str × V) := putF "den" (.int d) (putF "num" (.int n) [])
theorem rf_num (n d : Int) : (rf n d).lookup ("num" : Str) = some (.int n) := by
  unfold rf
  rw [lookup_putF, if_neg nd_, lookup_putF, if_pos rfl]
theorem rf_den (n d : Int) : (rf n d).lookup ("den" : Str) = some (.int d) := by
  unfold rf
  rw [lookup_putF, if_pos rfl]
theorem rf_no (n d : Int) {m : Str} (h1 : ¬ m = "num") (h2 : ¬ m = "den") : (rf n d).lookup m = none := by
  unfold rf
  rw [lookup_putF, if_neg h2, lookup_putF, if_neg h1]
  all_goals rfl
def RatAt (C : Addr) (H : Hp) (p : Addr) (n d : Int) : Prop := ∃ dx, H p = some (.ins C dx (rf n d))
theorem RatAt.same {C : Addr} {H H' : Hp} {p : Addr} {n d : Int} (r : RatAt C H p n d) (s : Same H H') : RatAt C H' p n d := let ⟨dx, h⟩ := r; ⟨dx, s _ _ h⟩
/-- below 2 ^ k -/
abbrev Sm (k : Nat) (n : Int) : Prop := n.natAbs < 2 ^ k
theorem Sm.mono {j k : Nat} {n : Int} (h : Sm j n) (hk : j ≤ k) : Sm k n := Nat.lt_of_lt_of_le h (Nat.pow_le_pow_right (by decide) hk)
theorem sm_add {k : Nat} {a b : Int} (ha : Sm k a) (hb : Sm k b) : Sm (k + 1) (a + b) := by
  have h1 : a.natAbs < 2 ^ k := ha
  have h2 : b.natAbs < 2 ^ k := hb
  show (a + b).natAbs < 2 ^ (k + 1)
  rw [Nat.pow_succ]
  omega
theorem sm_sub {k : Nat} {a b : Int} (ha : Sm k a) (hb : Sm k b) : Sm (k + 1) (a - b) := by
  have h1 : a.natAbs < 2 ^ k := ha
  have h2 : b.natAbs < 2 ^ k := hb
  show (a - b).natAbs < 2 ^ (k + 1)
  rw [Nat.pow_succ]
  omega
theorem sm_mul {j k : Nat} {a b : Int} (ha : Sm j a) (hb : Sm k b) : Sm (j + k) (a * b) := wide_lt ha hb
theorem sm_red1 {k : Nat} {n d : Int} (hd : 0 < d) (h : Sm k n) : Sm k (red n d).1 := Nat.lt_of_le_of_lt (red_le hd).1 h
theorem sm_red2 {k : Nat} {n d : Int} (hd : 0 < d) (h : Sm k d) : Sm k (red n d).2 := Nat.lt_of_le_of_lt (red_le hd).2 h
theorem cmul {j k : Nat} {a b : Int} (ha : Sm j a) (hb : Sm k b) (h0 : 0 < j := by decide) (h1 : 0 < k := by decide) (h : j + k ≤ 1000000 := by decide) : CMulW a b := wide_mul ha hb h0 h1 h
theorem cdiv {k : Nat} {a b : Int} (h : 0 < b) (hb : Sm k b) (h0 : 0 < k := by decide) (h9 : k ≤ 9000 := by decide) : CDivW a b := wide_div h hb h0 h9
theorem sm_gcd {k : Nat} {n d : Int} (hd : 0 < d) (h : Sm k d) : Sm k ((Nat.gcd n.natAbs d.natAbs : Nat) : Int) := by
  show ((Nat.gcd n.natAbs d.natAbs : Nat) : Int).natAbs < 2 ^ k
  rw [Int.natAbs_natCast]
  exact Nat.lt_of_le_of_lt (Nat.le_of_dvd (by omega) (Nat.gcd_dvd_right _ _)) h
/-! ### texts of numbers -/
theorem str_len {n : Int} (h : Sm 200 n) : (Str.ofString (toString n)).length ≤ 201 := by
  rw [ofString_length]
  exact int_text_length_le (k := 200) (by decide) (PySem.Flt.log2_lt_of (by decide) h)
theorem log_lt {n : Int} (h : Sm 200 n) : n.natAbs.log2 < 1920 := Nat.lt_of_lt_of_le (PySem.Flt.log2_lt_of (k := 200) (by decide) h) (by decide)
/-- how a ratio is written -/
def rtext (n d : Int) : Str := if d = 1 then Str.ofString (toString n) else (Str.ofString (toString n) ++ ("/" : Str)) ++ Str.ofString (toString d)
/-! ### the promises -/
def spDec : Sp := fun vs H Q _ => ∃ n : Int, vs = [.int n] ∧ Sm 200 n ∧ Q (.str (toString n)) H
def spInit (C B : Addr) : Sp := fun vs H Q E => ∃ (p dx : Addr) (num den : Int), vs = [.ref p, .int num, .int den] ∧ H p = some (.ins C dx []) ∧ Sm 200 num ∧ Sm 200 den ∧
  (den ≤ 0 → E (.ref B) none H) ∧ (0 < den → ∀ H', RatAt C H' p (red num den).1 (red num den).2 → (∀ b o, H b = some o → b ≠ p → H' b = some o) → Q .non H')
def spBin (C : Addr) (f : Int → Int → Int → Int → Int × Int) : Sp := fun vs H Q _ => ∃ (a b : Addr) (p q p' q' : Int), vs = [.ref a, .ref b] ∧ RatAt C H a p q ∧ RatAt C H b p' q' ∧ 0 < q ∧ 0 < q' ∧ Sm 90 p ∧ Sm 90 q ∧ Sm 90 p' ∧ Sm 90 q' ∧
  ∀ (x : Addr) (H' : Hp), Same H H' → RatAt C H' x (red (f p q p' q').1 (f p q p' q').2).1 (red (f p q p' q').1 (f p q p' q').2).2 → Q (.ref x) H'
def spTst (C : Addr) (f : Int → Int → Int → Int → Bool) : Sp := fun vs H Q _ => ∃ (a b : Addr) (p q p' q' : Int), vs = [.ref a, .ref b] ∧ RatAt C H a p q ∧ RatAt C H b p' q' ∧ Sm 90 p ∧ Sm 90 q ∧ Sm 90 p' ∧ Sm 90 q' ∧ Q (.bl (f p q p' q')) H
def spStr (C : Addr) : Sp := fun vs H Q _ => ∃ (a : Addr) (p q : Int), vs = [.ref a] ∧ RatAt C H a p q ∧ Sm 200 p ∧ Sm 200 q ∧ Q (.str (rtext p q)) H
def spCell (K : PySem.W.Frag) : Sp := fun vs H Q _ => ∃ (a : Addr) (ns : List Int) (k : Int), vs = [.ref a, .int k] ∧ SqL K H a (ns.map V.int) ∧ 0 ≤ k ∧ ∀ v : Int, Q (.int v) H
def spIsI : Sp := fun vs H Q _ => ∃ n : Int, vs = [.int n] ∧ Q (.bl true) H
def spLess : Sp := fun vs H Q _ => ∃ n d : Int, vs = [.int n, .int d] ∧ 0 < d ∧ Sm 200 n ∧ Sm 200 d ∧ ∀ (p : Addr) (H' : Hp), Same H H' → H' p = some (.tup [.int (red n d).1, .int (red n d).2]) → Q (.ref p) H'
def spIs (C : Addr) : Sp := fun vs H Q _ => ∃ (a : Addr) (n d : Int), vs = [.ref a, .int n, .int d] ∧ 0 < d ∧ Sm 200 n ∧ Sm 200 d ∧ RatAt C H a (red n d).1 (red n d).2 ∧ ∀ H', Same H H' → Q (.bl true) H'
def spRef : Sp := fun vs H Q _ => ∃ n d : Int, vs = [.int n, .int d] ∧ d ≤ 0 ∧ Sm 200 n ∧ Sm 200 d ∧ ∀ H', Same H H' → Q (.bl true) H'
def spLaw (K : PySem.W.Frag) : Sp := fun vs H Q _ => ∃ (a : Addr) (ns : List Int), vs = [.ref a] ∧ SqL K H a (ns.map V.int) ∧ ns.length ≤ 63 ∧ ∀ H', Q (.bl true) H'
structure Txt (K : PySem.W.Frag) (mg : Str → Option Value) where
  o_n : PySem.W.specialIn K (.builtin "object.__class__") "__get__" = some (some (.builtin "getset_descriptor.__get__"))
  o_t : PySem.W.takesIn K (.builtin "object.__class__") = some true
  C_Ratio : Addr
  g_Ratio : mg "Ratio" = some (.ref C_Ratio)
  cl_Ratio : Cls K C_Ratio
  sf_Ratio : PySem.W.selfFirst K C_Ratio = true
  na_Ratio_num : NoAttr K C_Ratio "num"
  na_Ratio_den : NoAttr K C_Ratio "den"
  ia_Ratio : PySem.W.findIn K (.ref C_Ratio) "__class__" = some (some (.builtin "object.__class__"))
  im_Ratio : PySem.W.mroIn K C_Ratio (.type "object") = some true
  ik_Ratio : PySem.W.kitOne K (.ref C_Ratio) (.ref C_Ratio) = some true
  a_decimals : Addr
  fd_decimals : FuncData
  F_decimals : Fun K "decimals" "decimals" s_decimals a_decimals fd_decimals
  b_decimals : L2.Binds K fd_decimals ["number"] []
  k_decimals : PySem.W.keepIn K (.ref a_decimals) = true
  g_decimals : mg "decimals" = some (.ref a_decimals)
  a_Ratio_init : Addr
  fd_Ratio_init : FuncData
  F_Ratio_init : FunD K "__init__" "Ratio.__init__" (defArgs s_Ratio_init) (defBody s_Ratio_init) (defScope s_Ratio_init) [.int 1] [] a_Ratio_init fd_Ratio_init
  ds0_Ratio_init : List Value
  dv0_Ratio_init : Vals [.int 1] ds0_Ratio_init
  db0_Ratio_init : L2.Binds K fd_Ratio_init ["self", "num", "den"] ds0_Ratio_init
  b_Ratio_init : L2.Binds K fd_Ratio_init ["self", "num", "den"] []
  k_Ratio_init : PySem.W.keepIn K (.ref a_Ratio_init) = true
  m_Ratio_init : Meth K C_Ratio "__init__" a_Ratio_init
  a_Ratio_add : Addr
  fd_Ratio_add : FuncData
  F_Ratio_add : Fun K "__add__" "Ratio.__add__" s_Ratio_add a_Ratio_add fd_Ratio_add
  b_Ratio_add : L2.Binds K fd_Ratio_add ["self", "other"] []
  k_Ratio_add : PySem.W.keepIn K (.ref a_Ratio_add) = true
  m_Ratio_add : Meth K C_Ratio "__add__" a_Ratio_add
  a_Ratio_sub : Addr
  fd_Ratio_sub : FuncData
  F_Ratio_sub : Fun K "__sub__" "Ratio.__sub__" s_Ratio_sub a_Ratio_sub fd_Ratio_sub
  b_Ratio_sub : L2.Binds K fd_Ratio_sub ["self", "other"] []
  k_Ratio_sub : PySem.W.keepIn K (.ref a_Ratio_sub) = true
  m_Ratio_sub : Meth K C_Ratio "__sub__" a_Ratio_sub
  a_Ratio_mul : Addr
  fd_Ratio_mul : FuncData
  F_Ratio_mul : Fun K "__mul__" "Ratio.__mul__" s_Ratio_mul a_Ratio_mul fd_Ratio_mul
  b_Ratio_mul : L2.Binds K fd_Ratio_mul ["self", "other"] []
  k_Ratio_mul : PySem.W.keepIn K (.ref a_Ratio_mul) = true
  m_Ratio_mul : Meth K C_Ratio "__mul__" a_Ratio_mul
  a_Ratio_eq : Addr
  fd_Ratio_eq : FuncData
  F_Ratio_eq : Fun K "__eq__" "Ratio.__eq__" s_Ratio_eq a_Ratio_eq fd_Ratio_eq
  b_Ratio_eq : L2.Binds K fd_Ratio_eq ["self", "other"] []
  k_Ratio_eq : PySem.W.keepIn K (.ref a_Ratio_eq) = true
  m_Ratio_eq : Meth K C_Ratio "__eq__" a_Ratio_eq
  a_Ratio_str : Addr
  fd_Ratio_str : FuncData
  F_Ratio_str : Fun K "__str__" "Ratio.__str__" s_Ratio_str a_Ratio_str fd_Ratio_str
  b_Ratio_str : L2.Binds K fd_Ratio_str ["self"] []
  k_Ratio_str : PySem.W.keepIn K (.ref a_Ratio_str) = true
  m_Ratio_str : Meth K C_Ratio "__str__" a_Ratio_str
  a_Ratio_below : Addr
  fd_Ratio_below : FuncData
  F_Ratio_below : Fun K "below" "Ratio.below" s_Ratio_below a_Ratio_below fd_Ratio_below
  b_Ratio_below : L2.Binds K fd_Ratio_below ["self", "other"] []
  k_Ratio_below : PySem.W.keepIn K (.ref a_Ratio_below) = true
  m_Ratio_below : Meth K C_Ratio "below" a_Ratio_below
  a_law_cell : Addr
  fd_law_cell : FuncData
  F_law_cell : Fun K "_law_cell" "_law_cell" s_law_cell a_law_cell fd_law_cell
  b_law_cell : L2.Binds K fd_law_cell ["script", "k"] []
  k_law_cell : PySem.W.keepIn K (.ref a_law_cell) = true
  g_law_cell : mg "_law_cell" = some (.ref a_law_cell)
  a_law_is_integer : Addr
  fd_law_is_integer : FuncData
  F_law_is_integer : Fun K "_law_is_integer" "_law_is_integer" s_law_is_integer a_law_is_integer fd_law_is_integer
  b_law_is_integer : L2.Binds K fd_law_is_integer ["actual"] []
  k_law_is_integer : PySem.W.keepIn K (.ref a_law_is_integer) = true
  g_law_is_integer : mg "_law_is_integer" = some (.ref a_law_is_integer)
  a_law_less : Addr
  fd_law_less : FuncData
  F_law_less : Fun K "_law_less" "_law_less" s_law_less a_law_less fd_law_less
  b_law_less : L2.Binds K fd_law_less ["num", "den"] []
  k_law_less : PySem.W.keepIn K (.ref a_law_less) = true
  g_law_less : mg "_law_less" = some (.ref a_law_less)
  a_law_is : Addr
  fd_law_is : FuncData
  F_law_is : Fun K "_law_is" "_law_is" s_law_is a_law_is fd_law_is
  b_law_is : L2.Binds K fd_law_is ["actual", "num", "den"] []
  k_law_is : PySem.W.keepIn K (.ref a_law_is) = true
  g_law_is : mg "_law_is" = some (.ref a_law_is)
  a_law_refused : Addr
  fd_law_refused : FuncData
  F_law_refused : Fun K "_law_refused" "_law_refused" s_law_refused a_law_refused fd_law_refused
  b_law_refused : L2.Binds K fd_law_refused ["num", "den"] []
  k_law_refused : PySem.W.keepIn K (.ref a_law_refused) = true
  g_law_refused : mg "_law_refused" = some (.ref a_law_refused)
  a_law : Addr
  fd_law : FuncData
  F_law : Fun K "law" "law" s_law a_law fd_law
  b_law : L2.Binds K fd_law ["script"] []
  k_law : PySem.W.keepIn K (.ref a_law) = true
  g_law : mg "law" = some (.ref a_law)
  mk_Ratio : Mk K C_Ratio a_Ratio_init
  C_BadBound : Addr
  g_BadBound : mg "BadBound" = some (.ref C_BadBound)
  kc_BadBound : PySem.W.keepIn K (.ref C_BadBound) = true
  xb_BadBound : PySem.W.subIn K (.ref C_BadBound) (.type "BaseException") = some true
  xt_BadBound : PySem.W.typeIn K (.ref C_BadBound) = some (.type "type")
  xd_BadBound : PySem.W.hasDictIn K C_BadBound = true
  x_BadBound : PySem.W.excIn K C_BadBound [.type "ValueError", .type "Exception", .type "BaseException", .type "object"] "ValueError.__new__" = true
  C_PlayError : Addr
  g_PlayError : mg "PlayError" = some (.ref C_PlayError)
  kc_PlayError : PySem.W.keepIn K (.ref C_PlayError) = true
  xb_PlayError : PySem.W.subIn K (.ref C_PlayError) (.type "BaseException") = some true
  xt_PlayError : PySem.W.typeIn K (.ref C_PlayError) = some (.type "type")
  xd_PlayError : PySem.W.hasDictIn K C_PlayError = true
  C_BadText : Addr
  g_BadText : mg "BadText" = some (.ref C_BadText)
  kc_BadText : PySem.W.keepIn K (.ref C_BadText) = true
  xb_BadText : PySem.W.subIn K (.ref C_BadText) (.type "BaseException") = some true
  xt_BadText : PySem.W.typeIn K (.ref C_BadText) = some (.type "type")
  xd_BadText : PySem.W.hasDictIn K C_BadText = true
  C_BadPaper : Addr
  g_BadPaper : mg "BadPaper" = some (.ref C_BadPaper)
  kc_BadPaper : PySem.W.keepIn K (.ref C_BadPaper) = true
  xb_BadPaper : PySem.W.subIn K (.ref C_BadPaper) (.type "BaseException") = some true
  xt_BadPaper : PySem.W.typeIn K (.ref C_BadPaper) = some (.type "type")
  xd_BadPaper : PySem.W.hasDictIn K C_BadPaper = true
  C_BadCall : Addr
  g_BadCall : mg "BadCall" = some (.ref C_BadCall)
  kc_BadCall : PySem.W.keepIn K (.ref C_BadCall) = true
  xb_BadCall : PySem.W.subIn K (.ref C_BadCall) (.type "BaseException") = some true
  xt_BadCall : PySem.W.typeIn K (.ref C_BadCall) = some (.type "type")
  xd_BadCall : PySem.W.hasDictIn K C_BadCall = true
  C_BadPlayer : Addr
  g_BadPlayer : mg "BadPlayer" = some (.ref C_BadPlayer)
  kc_BadPlayer : PySem.W.keepIn K (.ref C_BadPlayer) = true
  xb_BadPlayer : PySem.W.subIn K (.ref C_BadPlayer) (.type "BaseException") = some true
  xt_BadPlayer : PySem.W.typeIn K (.ref C_BadPlayer) = some (.type "type")
  xd_BadPlayer : PySem.W.hasDictIn K C_BadPlayer = true
  C_BadStep : Addr
  g_BadStep : mg "BadStep" = some (.ref C_BadStep)
  kc_BadStep : PySem.W.keepIn K (.ref C_BadStep) = true
  xb_BadStep : PySem.W.subIn K (.ref C_BadStep) (.type "BaseException") = some true
  xt_BadStep : PySem.W.typeIn K (.ref C_BadStep) = some (.type "type")
  xd_BadStep : PySem.W.hasDictIn K C_BadStep = true
  C_TooLarge : Addr
  g_TooLarge : mg "TooLarge" = some (.ref C_TooLarge)
  kc_TooLarge : PySem.W.keepIn K (.ref C_TooLarge) = true
  xb_TooLarge : PySem.W.subIn K (.ref C_TooLarge) (.type "BaseException") = some true
  xt_TooLarge : PySem.W.typeIn K (.ref C_TooLarge) = some (.type "type")
  xd_TooLarge : PySem.W.hasDictIn K C_TooLarge = true
  ec_BadBound : ExcC K C_BadBound
  z_len : mg "len" = none
  z_range : mg "range" = none
  z_isinstance : mg "isinstance" = none
  z_abs : mg "abs" = none
  z_int : mg "int" = none
  z_str : mg "str" = none
  z_bool : mg "bool" = none
  z_ValueError : mg "ValueError" = none
  g_gcd : mg "gcd" = some (.builtin "math.gcd")
  g_CHUNK : ∃ t, mg "CHUNK" = some (.int (10 ^ 64) t)
  sub_bp : PySem.W.subIn K (.ref C_BadBound) (.ref C_PlayError) = some true
  ki_e : PySem.W.kitAny K (.ref C_BadBound) [.ref C_BadCall, .ref C_BadPaper, .ref C_BadPlayer, .ref C_BadStep, .ref C_BadText, .ref C_TooLarge] = some false
  ki_b : PySem.W.kitOne K (.ref C_BadBound) (.ref C_BadBound) = some true
  ki_v : PySem.W.kitOne K (.ref C_BadBound) (.type "ValueError") = some true
section
variable {P : Program} {w : World} {K : PySem.W.Frag} {mg : Str → Option Value} {base : Heap}
theorem ok_dec (T : Txt K mg) : FnOk P w K mg base CX0 1 T.a_decimals T.fd_decimals ["number"] spDec := by
  refine T.F_decimals.ok sc_decimals (fun vs H Q E h => ?_) (fun cdv A outer s H vs Q E hr h => ?_)
  · obtain ⟨n, rfl, _⟩ := h
    rfl
  obtain ⟨n, rfl, hn, k⟩ := h
  refine ⟨_, (pss_cons (ps_if (pt_cmpR op_lt (pe_callB call_abs (by rfl) T.z_abs (by decide +kernel) (pa_cons (pv 0) pa_nil)) (pe_glob (v := .int (10 ^ 64)) rfl T.g_CHUNK.choose_spec ⟨_, rfl⟩) (nomark _))
      (pss_one (ps_ret (pe_callTy call_str_int (by rfl) T.z_str (by decide +kernel) (pa_cons (pv 0) pa_nil))))
      pss_nil)
    pss_never), ?_⟩
  have ha : (if n < 0 then -n else n) < 10 ^ 64 := by
    have h1 : n.natAbs < 2 ^ 200 := hn
    have h2 : (2 : Nat) ^ 200 < 10 ^ 64 := by decide
    split <;> omega
  refine ⟨_, rfl, _, rfl, _, _, rfl, rfl, _, rfl, ?_⟩
  refine ite_yes (decide_eq_true ha) ?_
  exact ⟨_, rfl, _, rfl, log_lt hn, k⟩
theorem ok_init (T : Txt K mg) : FnOk P w K mg base (L2.CX P w) 1 T.a_Ratio_init T.fd_Ratio_init ["self", "num", "den"] (spInit T.C_Ratio T.C_BadBound) := by
  refine T.F_Ratio_init.ok sc_Ratio_init (fun vs H Q E h => ?_) (fun cdv A outer s H vs Q E hr h => ?_)
  · obtain ⟨p, dx, n, d, rfl, _⟩ := h
    rfl
  obtain ⟨p, dx, n, d, rfl, hp, hn, hd, kB, kG⟩ := h
  refine ⟨_, (pss_cons (ps_if (pt_cmpR op_le (pv 2) pe_int (nomark _))
      (pss_one (ps_raise rfl (takes_of rfl rfl rfl rfl) (pmk_own PySem.F.excBase_ValueError T.x_BadBound T.g_BadBound T.kc_BadBound (raises_own T.xb_BadBound T.xt_BadBound) rfl)))
      pss_nil)
    (pss_cons (ps_set (i := 3) sc_Ratio_init.nd rfl (Or.inl rfl) (pe_callBfun cr_gcd rfl T.g_gcd (pa_cons (pv 1) (pa_cons (pv 2) pa_nil))))
    (pss_cons (ps_fld (pv 0) (pe_op op_fdivW (pv 1) (pv 3)) rfl)
    (pss_one (ps_fld (pv 0) (pe_op op_fdivW (pv 2) (pv 3)) rfl))))), ?_⟩
  refine ⟨_, rfl, _, _, rfl, rfl, _, rfl, ?_⟩
  refine ite2 (fun c => ?_) (fun c => ?_)
  · exact kB (of_decide_eq_true c)
  have c' : 0 < d := by
    have := of_decide_eq_false (Bool.eq_false_iff.mpr c)
    omega
  have gp : (0 : Int) < ((Nat.gcd n.natAbs d.natAbs : Nat) : Int) := by
    have := gcd_pos (n := n) c'
    omega
  refine ⟨_, rfl, _, rfl, _, _, rfl, ?_⟩
  refine ⟨_, rfl, _, rfl, _, _, rfl, rfl, cdiv gp (sm_gcd c' hd), _, rfl, p, T.C_Ratio, dx, [], rfl, hp, T.cl_Ratio, T.na_Ratio_num, (by show 0 < 1000; decide), ?_⟩
  refine ⟨_, rfl, _, rfl, _, _, rfl, rfl, cdiv gp (sm_gcd c' hd), _, rfl, p, T.C_Ratio, dx, _, rfl, upd_same, T.cl_Ratio, T.na_Ratio_den, (by show 1 < 1000; decide), ?_⟩
  refine kG c' _ ⟨dx, upd_same⟩ fun b o e hb => ?_
  rw [upd_ne hb, upd_ne hb]
  exact e
theorem ok_add (T : Txt K mg) : FnOk P w K mg base CX0 3 T.a_Ratio_add T.fd_Ratio_add ["self", "other"] (spBin T.C_Ratio fun p q p' q' => (p * q' + p' * q, q * q')) := by
  have G_Ratio_init : FnOk P w K mg base (L2.CX P w) 1 T.a_Ratio_init T.fd_Ratio_init ["self", "num", "den"] (spInit T.C_Ratio T.C_BadBound) := ok_init T
  refine T.F_Ratio_add.ok sc_Ratio_add (fun vs H Q E h => ?_) (fun cdv A outer s H vs Q E hr h => ?_)
  · obtain ⟨a, b, p, q, p', q', rfl, _⟩ := h
    rfl
  obtain ⟨a, b, p, q, p', q', rfl, ⟨dx, ha⟩, ⟨dy, hb⟩, hq, hq', s1, s2, s3, s4, k⟩ := h
  refine ⟨_, (pss_one (ps_ret (pe_make T.mk_Ratio G_Ratio_init (hr.mono (by decide)) rfl T.g_Ratio T.b_Ratio_init .nil passL (pa_cons (pe_op op_add (pe_op op_mulW (pe_fld (pv 0) rfl) (pe_fld (pv 1) rfl)) (pe_op op_mulW (pe_fld (pv 1) rfl) (pe_fld (pv 0) rfl))) (pa_cons (pe_op op_mulW (pe_fld (pv 0) rfl) (pe_fld (pv 1) rfl)) pa_nil))))), ?_⟩
  have n1 := T.na_Ratio_num
  have n2 := T.na_Ratio_den
  refine ⟨_, rfl, a, _, dx, _, _, rfl, ha, T.cl_Ratio, n1, rf_num _ _, _, rfl, b, _, dy, _, _, rfl, hb, T.cl_Ratio, n2, rf_den _ _, _, _, rfl, rfl, cmul s1 s4, ?_⟩
  refine ⟨_, rfl, b, _, dy, _, _, rfl, hb, T.cl_Ratio, n1, rf_num _ _, _, rfl, a, _, dx, _, _, rfl, ha, T.cl_Ratio, n2, rf_den _ _, _, _, rfl, rfl, cmul s3 s2, ?_⟩
  refine ⟨_, _, rfl, rfl, ?_⟩
  refine ⟨_, rfl, a, _, dx, _, _, rfl, ha, T.cl_Ratio, n2, rf_den _ _, _, rfl, b, _, dy, _, _, rfl, hb, T.cl_Ratio, n2, rf_den _ _, _, _, rfl, rfl, cmul s2 s4, ?_⟩
  intro x dz nx nz ne
  have s5 : Sm 200 (p * q' + p' * q) := (sm_add (sm_mul s1 s4) (sm_mul s3 s2)).mono (by decide)
  have s6 : Sm 200 (q * q') := (sm_mul s2 s4).mono (by decide)
  have hd := Int.mul_pos hq hq'
  refine ⟨x, dz, _, _, rfl, upd_same, s5, s6, fun z => absurd hd (by omega), fun _ H' hR hk => ⟨rfl, k x H' (fun b o e => hk b o (same_make nx nz b o e) (ne_of_none e nx)) hR⟩⟩
theorem ok_sub (T : Txt K mg) : FnOk P w K mg base CX0 3 T.a_Ratio_sub T.fd_Ratio_sub ["self", "other"] (spBin T.C_Ratio fun p q p' q' => (p * q' - p' * q, q * q')) := by
  have G_Ratio_init : FnOk P w K mg base (L2.CX P w) 1 T.a_Ratio_init T.fd_Ratio_init ["self", "num", "den"] (spInit T.C_Ratio T.C_BadBound) := ok_init T
  refine T.F_Ratio_sub.ok sc_Ratio_sub (fun vs H Q E h => ?_) (fun cdv A outer s H vs Q E hr h => ?_)
  · obtain ⟨a, b, p, q, p', q', rfl, _⟩ := h
    rfl
  obtain ⟨a, b, p, q, p', q', rfl, ⟨dx, ha⟩, ⟨dy, hb⟩, hq, hq', s1, s2, s3, s4, k⟩ := h
  refine ⟨_, (pss_one (ps_ret (pe_make T.mk_Ratio G_Ratio_init (hr.mono (by decide)) rfl T.g_Ratio T.b_Ratio_init .nil passL (pa_cons (pe_op op_sub (pe_op op_mulW (pe_fld (pv 0) rfl) (pe_fld (pv 1) rfl)) (pe_op op_mulW (pe_fld (pv 1) rfl) (pe_fld (pv 0) rfl))) (pa_cons (pe_op op_mulW (pe_fld (pv 0) rfl) (pe_fld (pv 1) rfl)) pa_nil))))), ?_⟩
  have n1 := T.na_Ratio_num
  have n2 := T.na_Ratio_den
  refine ⟨_, rfl, a, _, dx, _, _, rfl, ha, T.cl_Ratio, n1, rf_num _ _, _, rfl, b, _, dy, _, _, rfl, hb, T.cl_Ratio, n2, rf_den _ _, _, _, rfl, rfl, cmul s1 s4, ?_⟩
  refine ⟨_, rfl, b, _, dy, _, _, rfl, hb, T.cl_Ratio, n1, rf_num _ _, _, rfl, a, _, dx, _, _, rfl, ha, T.cl_Ratio, n2, rf_den _ _, _, _, rfl, rfl, cmul s3 s2, ?_⟩
  refine ⟨_, _, rfl, rfl, ?_⟩
  refine ⟨_, rfl, a, _, dx, _, _, rfl, ha, T.cl_Ratio, n2, rf_den _ _, _, rfl, b, _, dy, _, _, rfl, hb, T.cl_Ratio, n2, rf_den _ _, _, _, rfl, rfl, cmul s2 s4, ?_⟩
  intro x dz nx nz ne
  have s5 : Sm 200 (p * q' - p' * q) := (sm_sub (sm_mul s1 s4) (sm_mul s3 s2)).mono (by decide)
  have s6 : Sm 200 (q * q') := (sm_mul s2 s4).mono (by decide)
  have hd := Int.mul_pos hq hq'
  refine ⟨x, dz, _, _, rfl, upd_same, s5, s6, fun z => absurd hd (by omega), fun _ H' hR hk => ⟨rfl, k x H' (fun b o e => hk b o (same_make nx nz b o e) (ne_of_none e nx)) hR⟩⟩
theorem ok_mul (T : Txt K mg) : FnOk P w K mg base CX0 3 T.a_Ratio_mul T.fd_Ratio_mul ["self", "other"] (spBin T.C_Ratio fun p q p' q' => (p * p', q * q')) := by
  have G_Ratio_init : FnOk P w K mg base (L2.CX P w) 1 T.a_Ratio_init T.fd_Ratio_init ["self", "num", "den"] (spInit T.C_Ratio T.C_BadBound) := ok_init T
  refine T.F_Ratio_mul.ok sc_Ratio_mul (fun vs H Q E h => ?_) (fun cdv A outer s H vs Q E hr h => ?_)
  · obtain ⟨a, b, p, q, p', q', rfl, _⟩ := h
    rfl
  obtain ⟨a, b, p, q, p', q', rfl, ⟨dx, ha⟩, ⟨dy, hb⟩, hq, hq', s1, s2, s3, s4, k⟩ := h
  refine ⟨_, (pss_one (ps_ret (pe_make T.mk_Ratio G_Ratio_init (hr.mono (by decide)) rfl T.g_Ratio T.b_Ratio_init .nil passL (pa_cons (pe_op op_mulW (pe_fld (pv 0) rfl) (pe_fld (pv 1) rfl)) (pa_cons (pe_op op_mulW (pe_fld (pv 0) rfl) (pe_fld (pv 1) rfl)) pa_nil))))), ?_⟩
  have n1 := T.na_Ratio_num
  have n2 := T.na_Ratio_den
  refine ⟨_, rfl, a, _, dx, _, _, rfl, ha, T.cl_Ratio, n1, rf_num _ _, _, rfl, b, _, dy, _, _, rfl, hb, T.cl_Ratio, n1, rf_num _ _, _, _, rfl, rfl, cmul s1 s3, ?_⟩
  refine ⟨_, rfl, a, _, dx, _, _, rfl, ha, T.cl_Ratio, n2, rf_den _ _, _, rfl, b, _, dy, _, _, rfl, hb, T.cl_Ratio, n2, rf_den _ _, _, _, rfl, rfl, cmul s2 s4, ?_⟩
  intro x dz nx nz ne
  have s5 : Sm 200 (p * p') := (sm_mul s1 s3).mono (by decide)
  have s6 : Sm 200 (q * q') := (sm_mul s2 s4).mono (by decide)
  have hd := Int.mul_pos hq hq'
  refine ⟨x, dz, _, _, rfl, upd_same, s5, s6, fun z => absurd hd (by omega), fun _ H' hR hk => ⟨rfl, k x H' (fun b o e => hk b o (same_make nx nz b o e) (ne_of_none e nx)) hR⟩⟩
theorem ok_below (T : Txt K mg) : FnOk P w K mg base CX0 1 T.a_Ratio_below T.fd_Ratio_below ["self", "other"] (spTst T.C_Ratio fun p q p' q' => decide (p * q' < p' * q)) := by
  refine T.F_Ratio_below.ok sc_Ratio_below (fun vs H Q E h => ?_) (fun cdv A outer s H vs Q E hr h => ?_)
  · obtain ⟨a, b, p, q, p', q', rfl, _⟩ := h
    rfl
  obtain ⟨a, b, p, q, p', q', rfl, ⟨dx, ha⟩, ⟨dy, hb⟩, s1, s2, s3, s4, k⟩ := h
  refine ⟨_, (pss_one (ps_ret (pe_cmpR op_lt (pe_op op_mulW (pe_fld (pv 0) rfl) (pe_fld (pv 1) rfl)) (pe_op op_mulW (pe_fld (pv 1) rfl) (pe_fld (pv 0) rfl)) (nomark _)))), ?_⟩
  have n1 := T.na_Ratio_num
  have n2 := T.na_Ratio_den
  refine ⟨_, rfl, a, _, dx, _, _, rfl, ha, T.cl_Ratio, n1, rf_num _ _, _, rfl, b, _, dy, _, _, rfl, hb, T.cl_Ratio, n2, rf_den _ _, _, _, rfl, rfl, cmul s1 s4, ?_⟩
  refine ⟨_, rfl, b, _, dy, _, _, rfl, hb, T.cl_Ratio, n1, rf_num _ _, _, rfl, a, _, dx, _, _, rfl, ha, T.cl_Ratio, n2, rf_den _ _, _, _, rfl, rfl, cmul s3 s2, ?_⟩
  exact ⟨_, _, rfl, rfl, k⟩
theorem ok_eq (T : Txt K mg) : FnOk P w K mg base CX0 1 T.a_Ratio_eq T.fd_Ratio_eq ["self", "other"] (spTst T.C_Ratio fun p q p' q' => decide (p = p') && decide (q = q')) := by
  refine T.F_Ratio_eq.ok sc_Ratio_eq (fun vs H Q E h => ?_) (fun cdv A outer s H vs Q E hr h => ?_)
  · obtain ⟨a, b, p, q, p', q', rfl, _⟩ := h
    rfl
  obtain ⟨a, b, p, q, p', q', rfl, ⟨dx, ha⟩, ⟨dy, hb⟩, s1, s2, s3, s4, k⟩ := h
  refine ⟨_, (pss_one (ps_ret (pe_and (pe_callB call_isi (by rfl) T.z_isinstance (by decide +kernel) (pa_cons (pv 1) (pa_cons (pe_glob (v := .ref T.C_Ratio) rfl T.g_Ratio rfl) pa_nil))) (pe_and (pe_cmpR op_eq (pe_fld (pv 0) rfl) (pe_fld (pv 1) rfl) (nomark _)) (pe_one (pe_cmpR op_eq (pe_fld (pv 0) rfl) (pe_fld (pv 1) rfl) (nomark _))))))), ?_⟩
  have n1 := T.na_Ratio_num
  have n2 := T.na_Ratio_den
  refine ⟨_, rfl, _, _, _, _, true, rfl, .own _, .base (.ins hb T.cl_Ratio T.ia_Ratio T.o_n T.o_t T.im_Ratio), T.ik_Ratio, true, rfl, ?_⟩
  refine iteT ?_
  refine ⟨_, rfl, a, _, dx, _, _, rfl, ha, T.cl_Ratio, n1, rf_num _ _, _, rfl, b, _, dy, _, _, rfl, hb, T.cl_Ratio, n1, rf_num _ _, rfl, _, rfl, ?_⟩
  by_cases c : p = p'
  · refine ite_yes (decide_eq_true (congrArg V.int c)) ?_
    refine ⟨_, rfl, a, _, dx, _, _, rfl, ha, T.cl_Ratio, n2, rf_den _ _, _, rfl, b, _, dy, _, _, rfl, hb, T.cl_Ratio, n2, rf_den _ _, rfl, ?_⟩
    have e : (decide (p = p') && decide (q = q')) = decide (V.int q = V.int q') := by
      rw [decide_eq_true c, Bool.true_and]
      by_cases c2 : q = q'
      · rw [decide_eq_true c2, decide_eq_true (congrArg V.int c2)]
      · rw [decide_eq_false c2, decide_eq_false fun z => c2 (V.int.inj z)]
    dsimp only at k
    rw [e] at k
    exact k
  · refine ite_no (fun z => c (V.int.inj (of_decide_eq_true z))) ?_
    dsimp only at k
    rw [decide_eq_false c, Bool.false_and] at k
    exact k
theorem ok_str (T : Txt K mg) : FnOk P w K mg base CX0 2 T.a_Ratio_str T.fd_Ratio_str ["self"] (spStr T.C_Ratio) := by
  have G_decimals : FnOk P w K mg base CX0 1 T.a_decimals T.fd_decimals ["number"] spDec := ok_dec T
  refine T.F_Ratio_str.ok sc_Ratio_str (fun vs H Q E h => ?_) (fun cdv A outer s H vs Q E hr h => ?_)
  · obtain ⟨a, p, q, rfl, _⟩ := h
    rfl
  obtain ⟨a, p, q, rfl, ⟨dx, ha⟩, s1, s2, k⟩ := h
  refine ⟨_, (pss_cons (ps_if (pt_cmpR op_eq (pe_fld (pv 0) rfl) pe_int (nomark _))
      (pss_one (ps_ret (pe_joined1 (pe_fmt (pe_call G_decimals (hr.mono (by decide)) rfl T.g_decimals T.k_decimals T.b_decimals .nil pass0 (pa_cons (pe_fld (pv 0) rfl) pa_nil))))))
      pss_nil)
    (pss_one (ps_ret (pe_joined (PJ.cons (pe_fmt (pe_call G_decimals (hr.mono (by decide)) rfl T.g_decimals T.k_decimals T.b_decimals .nil pass0 (pa_cons (pe_fld (pv 0) rfl) pa_nil))) (PJ.cons pe_str (PJ.cons (pe_fmt (pe_call G_decimals (hr.mono (by decide)) rfl T.g_decimals T.k_decimals T.b_decimals .nil pass0 (pa_cons (pe_fld (pv 0) rfl) pa_nil))) PJ.nil))))))), ?_⟩
  have n1 := T.na_Ratio_num
  have n2 := T.na_Ratio_den
  have l1 := str_len s1
  have l2 := str_len s2
  have big : 1000 ≤ sizeLine := by decide
  refine ⟨_, rfl, a, _, dx, _, _, rfl, ha, T.cl_Ratio, n2, rf_den _ _, rfl, _, rfl, ?_⟩
  by_cases c : q = 1
  · refine ite_yes (decide_eq_true (congrArg V.int c)) ?_
    refine ⟨_, rfl, a, _, dx, _, _, rfl, ha, T.cl_Ratio, n1, rf_num _ _, _, rfl, s1, .inl ⟨_, rfl, Nat.le_trans l1 (by decide), ?_⟩⟩
    unfold rtext at k
    rw [if_pos c] at k
    exact k
  · refine ite_no (fun z => c (V.int.inj (of_decide_eq_true z))) ?_
    unfold rtext at k
    rw [if_neg c] at k
    refine ⟨_, rfl, a, _, dx, _, _, rfl, ha, T.cl_Ratio, n1, rf_num _ _, _, rfl, s1, .inl ⟨_, rfl, Nat.le_trans l1 (by decide), _, rfl, ?_⟩⟩
    rw [Str.empty_append]
    refine ⟨Nat.le_trans l1 (by decide), _, rfl, ?_⟩
    have l3 : (Str.ofString (toString p) ++ ("/" : Str)).length ≤ 202 := by
      rw [Str.length_append]
      exact Nat.add_le_add l1 (by decide +kernel : ("/" : Str).length ≤ 1)
    refine ⟨Nat.le_trans l3 (by decide), ?_⟩
    refine ⟨_, rfl, a, _, dx, _, _, rfl, ha, T.cl_Ratio, n2, rf_den _ _, _, rfl, s2, .inl ⟨_, rfl, Nat.le_trans l2 (by decide), _, rfl, ?_⟩⟩
    refine ⟨?_, k⟩
    rw [Str.length_append]
    exact Nat.le_trans (Nat.add_le_add l3 l2) (by decide)
theorem ok_cell (T : Txt K mg) : FnOk P w K mg base CX0 1 T.a_law_cell T.fd_law_cell ["script", "k"] (spCell K) := by
  refine T.F_law_cell.ok sc_law_cell (fun vs H Q E h => ?_) (fun cdv A outer s H vs Q E hr h => ?_)
  · obtain ⟨a, ns, k, rfl, _⟩ := h
    rfl
  obtain ⟨a, ns, k, rfl, hS, h0, q⟩ := h
  refine ⟨_, (pss_cons (ps_if (pt_cmpR op_lt (pv 1) (pe_callB call_len_seq (by rfl) T.z_len (by decide +kernel) (pa_cons (pv 0) pa_nil)) (nomark _))
      (pss_one (ps_ret (pe_ix ix_list (pv 0) (pv 1) (fun _ _ => rfl))))
      pss_nil)
    (pss_one (ps_ret pe_int))), ?_⟩
  refine ⟨_, rfl, _, rfl, a, _, rfl, .inl hS, _, _, rfl, rfl, _, rfl, ?_⟩
  refine ite2 (fun c => ?_) (fun c => ?_)
  · have c' := of_decide_eq_true c
    rw [List.length_map] at c'
    have hk : k.toNat < ns.length := by omega
    have e : atI (ns.map V.int) k = some (.int ns[k.toNat]) := at_of (j := k.toNat) (by omega) (by rw [List.getElem?_map, List.getElem?_eq_getElem hk] <;> rfl)
    exact ⟨_, rfl, _, rfl, a, _, _, _, rfl, rfl, hS, e, q _⟩
  · exact q 0
theorem ok_isI (T : Txt K mg) : FnOk P w K mg base CX0 1 T.a_law_is_integer T.fd_law_is_integer ["actual"] spIsI := by
  refine T.F_law_is_integer.ok sc_law_is_integer (fun vs H Q E h => ?_) (fun cdv A outer s H vs Q E hr h => ?_)
  · obtain ⟨n, rfl, _⟩ := h
    rfl
  obtain ⟨n, rfl, q⟩ := h
  refine ⟨_, (pss_one (ps_ret (pe_and (pe_callB call_isi (by rfl) T.z_isinstance (by decide +kernel) (pa_cons (pv 0) (pa_cons (pe_bltn (v := .ty "int") (by rfl) T.z_int (by decide +kernel) rfl) pa_nil))) (pe_one (pe_not (pe_callB call_isi (by rfl) T.z_isinstance (by decide +kernel) (pa_cons (pv 0) (pa_cons (pe_bltn (v := .ty "bool") (by rfl) T.z_bool (by decide +kernel) rfl) pa_nil)))))))), ?_⟩
  refine ⟨_, rfl, _, _, _, _, true, rfl, .ty _, .base (.int _), kit_ty (by decide +kernel), true, rfl, iteT ?_⟩
  exact ⟨_, rfl, _, _, _, _, false, rfl, .ty _, .base (.int _), kit_ty (by decide +kernel), false, rfl, q⟩
theorem ok_less (T : Txt K mg) : FnOk P w K mg base CX0 1 T.a_law_less T.fd_law_less ["num", "den"] spLess := by
  refine T.F_law_less.ok sc_law_less (fun vs H Q E h => ?_) (fun cdv A outer s H vs Q E hr h => ?_)
  · obtain ⟨n, d, rfl, _⟩ := h
    rfl
  obtain ⟨n, d, rfl, hd, s1, s2, q⟩ := h
  refine ⟨_, (pss_cons (ps_set (i := 2) sc_law_less.nd rfl (Or.inl rfl) (pe_callB call_abs (by rfl) T.z_abs (by decide +kernel) (pa_cons (pv 0) pa_nil)))
    (pss_cons (ps_set (i := 3) sc_law_less.nd rfl (Or.inl rfl) (pv 1))
    (pss_cons (ps_for PassesOwn.never rfl (pi_range1 (by rfl) T.z_range (pa_cons pe_int pa_nil)) (pg_name (i := 4) sc_law_less.nd rfl (Or.inl rfl))
      (pss_cons (ps_if (pt_cmpR op_eq (pv 3) pe_int (nomark _))
      (pss_one ps_break)
      pss_nil)
    (pss_cons (ps_set (i := 5) sc_law_less.nd rfl (Or.inl rfl) (pe_op op_mod (pe_callTy call_int1 (by rfl) T.z_int (by decide +kernel) (pa_cons (pv 2) pa_nil)) (pv 3)))
    (pss_cons (ps_set (i := 2) sc_law_less.nd rfl (Or.inl rfl) (pv 3))
    (pss_one (ps_set (i := 3) sc_law_less.nd rfl (Or.inl rfl) (pv 5)))))))
    (pss_one (ps_ret (pe_tup (pa_cons (pe_op op_fdivW (pv 0) (pv 2)) (pa_cons (pe_op op_fdivW (pv 1) (pv 2)) pa_nil)))))))), ?_⟩
  refine ⟨_, rfl, _, rfl, ?_⟩
  refine ⟨_, rfl, ?_⟩
  have eab : (if n < 0 then -n else n) = (n.natAbs : Int) := by split <;> omega
  have e0 : Euc (Nat.gcd n.natAbs d.natAbs) (2 ^ 400) 0 (if n < 0 then -n else n) d := by
    rw [eab]
    have z := euc_start (a := (n.natAbs : Int)) (b := d) (by omega) hd (P := 2 ^ 400) ?_ ?_ ?_
    · rw [Int.natAbs_natCast] at z
      exact z
    · rw [Int.natAbs_natCast]
      have : n.natAbs * d.natAbs < 2 ^ 200 * 2 ^ 200 := Nat.mul_lt_mul'' s1 s2
      rw [← Nat.pow_add] at this
      exact Nat.le_of_lt this
    · rw [Int.natAbs_natCast]
      exact Nat.le_of_lt (Nat.lt_of_lt_of_le s1 (Nat.pow_le_pow_right (by decide) (by decide)))
    · exact Nat.le_of_lt (Nat.lt_of_lt_of_le s2 (Nat.pow_le_pow_right (by decide) (by decide)))
  have fin : ∀ (g : Int) (kV cV : Option V) (i : Nat), Euc (Nat.gcd n.natAbs d.natAbs) (2 ^ 400) i g 0 →
      (tRet (tTup (tCons (tOp (rI CDivW fun i j => .int (i / j)) (tVar 0) (tVar 2)) (tCons (tOp (rI CDivW fun i j => .int (i / j)) (tVar 1) (tVar 2)) tNil)))) { nx := fun _ H' => Q .non H', rt := Q } [some (.int n), some (.int d), some (.int g), some (.int 0), kV, cV] H := by
    intro g kV cV i he
    obtain ⟨eg, gp⟩ := euc_end he
    have hg : Sm 200 g := by rw [eg]; exact sm_gcd hd s2
    refine ⟨_, rfl, _, rfl, _, _, rfl, rfl, cdiv gp hg, _, rfl, _, rfl, _, _, rfl, rfl, cdiv gp hg, ?_⟩
    refine ⟨(by show 2 ≤ sizeLine; decide), fun p hp => q p _ (same_new hp _) ?_⟩
    rw [upd_same, eg]
    rfl
  refine ⟨2000, rfl, by decide, by decide, for_range (n := 2000) (fun i σ H' => H' = H ∧ ∃ (a b : Int) (kV cV : Option V), σ = [some (.int n), some (.int d), some (.int a), some (.int b), kV, cV] ∧ Euc (Nat.gcd n.natAbs d.natAbs) (2 ^ 400) i a b)
    ⟨rfl, _, _, none, none, rfl, e0⟩ ?_ ?_⟩
  · rintro i σ H' hi ⟨rfl, a, b, kV, cV, rfl, he⟩
    refine ⟨_, rfl, rfl, _, rfl, ?_⟩
    refine ite2 (fun c => ?_) (fun c => ?_)
    · have c' : b = 0 := V.int.inj (of_decide_eq_true c)
      subst c'
      exact fin _ _ _ i he
    · have c' : b ≠ 0 := fun z => c (decide_eq_true (congrArg V.int z))
      have bp : 0 < b := by have := he.2.1; omega
      refine ⟨_, rfl, .inl ⟨_, rfl, _, rfl, _, _, rfl, rfl, bp, ?_⟩⟩
      refine ⟨_, rfl, _, rfl, ?_⟩
      exact ⟨rfl, b, a % b, _, _, rfl, euc_turn he c'⟩
  · rintro σ H' ⟨rfl, a, b, kV, cV, rfl, he⟩
    have b0 : b = 0 := euc_over (i := 1999) he (Nat.pow_lt_pow_right (by decide) (by decide))
    subst b0
    exact fin _ _ _ 2000 he
/-! ### a refused ratio -/
def tb_ref (C B : Addr) : WX → TS := fun W => tDrop (tMakeS C (spInit C B) (WE W) (tCons (tVar 0) (tCons (tVar 1) tNil)))
def ts_ref (K : PySem.W.Frag) {mg : Str → Option Value} (T : Txt K mg) : Addr → Value → Option Addr → TS := fun a cls d =>
  tSeq (tIfS (tB (tCB (rIsET K T.C_BadBound a cls d) (tCons (tVar 2) (tCons (tTup (tCons (tC (.ref T.C_BadCall)) (tCons (tC (.ref T.C_BadPaper)) (tCons (tC (.ref T.C_BadPlayer)) (tCons (tC (.ref T.C_BadStep)) (tCons (tC (.ref T.C_BadText)) (tCons (tC (.ref T.C_TooLarge)) tNil))))))) tNil))))
      (tRet (tC (.bl false))) tNext)
    (tRet (tAndV (tCB (rIsE1 K T.C_BadBound a cls d) (tCons (tVar 2) (tCons (tC (.ref T.C_BadBound)) tNil))) (tCB (rIsE1 K T.C_BadBound a cls d) (tCons (tVar 2) (tCons (tC (.ty "ValueError")) tNil)))))
theorem ok_refused (T : Txt K mg) : FnOk P w K mg base CX0 3 T.a_law_refused T.fd_law_refused ["num", "den"] spRef := by
  have G_Ratio_init : FnOk P w K mg base (L2.CX P w) 1 T.a_Ratio_init T.fd_Ratio_init ["self", "num", "den"] (spInit T.C_Ratio T.C_BadBound) := ok_init T
  refine T.F_law_refused.ok sc_law_refused (fun vs H Q E h => ?_) (fun cdv A outer s H vs Q E hr h => ?_)
  · obtain ⟨n, d, rfl, _⟩ := h
    rfl
  obtain ⟨n, d, rfl, hd, s1, s2, q⟩ := h
  refine ⟨_, (pss_cons (ps_try_as (i := 2) (tb := tb_ref T.C_Ratio T.C_BadBound) (ts := ts_ref K T) (Wout := fun _ _ _ _ => False) rfl rfl sc_law_refused.nd rfl rfl ⟨rfl, by decide, Or.inl T.g_PlayError⟩ takes0
      (fun W pn xe tk _ => pss_one (ps_expr (by exact (pe_makeS T.mk_Ratio G_Ratio_init (hr.mono (by decide)) rfl T.g_Ratio T.b_Ratio_init (fun σ => passAt tk σ) (by exact (pa_cons (pv 0) (pa_cons (pv 1) pa_nil)))))))
      (fun a oe cls d pn hz hf => by exact (pss_cons (ps_if (pt_val (pe_callB (call_isET T.ec_BadBound hz hf) (by rfl) T.z_isinstance (by decide +kernel) (pa_cons (pv 2) (pa_cons (pe_tup (pa_cons (pe_glob (v := .ref T.C_BadCall) rfl T.g_BadCall rfl) (pa_cons (pe_glob (v := .ref T.C_BadPaper) rfl T.g_BadPaper rfl) (pa_cons (pe_glob (v := .ref T.C_BadPlayer) rfl T.g_BadPlayer rfl) (pa_cons (pe_glob (v := .ref T.C_BadStep) rfl T.g_BadStep rfl) (pa_cons (pe_glob (v := .ref T.C_BadText) rfl T.g_BadText rfl) (pa_cons (pe_glob (v := .ref T.C_TooLarge) rfl T.g_TooLarge rfl) pa_nil))))))) pa_nil))))
      (pss_one (ps_ret pe_bl))
      pss_nil)
    (pss_one (ps_ret (pe_and (pe_callB (call_isE1 T.ec_BadBound hz hf) (by rfl) T.z_isinstance (by decide +kernel) (pa_cons (pv 2) (pa_cons (pe_glob (v := .ref T.C_BadBound) rfl T.g_BadBound rfl) pa_nil))) (pe_one (pe_callB (call_isE1 T.ec_BadBound hz hf) (by rfl) T.z_isinstance (by decide +kernel) (pa_cons (pv 2) (pa_cons (pe_bltn (v := .ty "ValueError") (by rfl) T.z_ValueError (by decide +kernel) rfl) pa_nil))))))))))
    (pss_one (ps_ret pe_bl))), ?_⟩
  refine ⟨_, rfl, _, rfl, fun x dx nx nd ne => ?_⟩
  refine ⟨x, dx, n, d, rfl, upd_same, s1, s2, fun _ => ?_, fun z => absurd hd (by omega)⟩
  refine ⟨true, PySem.W.exm_ref T.xb_PlayError T.xd_PlayError T.xt_PlayError T.sub_bp, fun _ a na => ?_, fun z => Bool.noConfusion z⟩
  have sm : Same H (upd (upd H dx (.own x)) x (.ins T.C_Ratio dx [])) := same_make nx nd
  refine ⟨_, rfl, (by show 6 ≤ sizeLine; decide), fun p hp => ?_⟩
  refine ⟨p, _, _, false, rfl, rfl, rfl, upd_same, .cons (.own _) (.cons (.own _) (.cons (.own _) (.cons (.own _) (.cons (.own _) (.cons (.own _) .nil))))), T.ki_e, false, rfl, iteF ?_⟩
  refine ⟨_, rfl, _, _, true, rfl, rfl, rfl, fun u r => r, T.ki_b, true, rfl, iteT ?_⟩
  refine ⟨_, rfl, _, _, true, rfl, rfl, rfl, fun u r => r, T.ki_v, ?_⟩
  exact q _ (sm.trans (same_new hp _))
theorem ok_is (T : Txt K mg) : FnOk P w K mg base CX0 6 T.a_law_is T.fd_law_is ["actual", "num", "den"] (spIs T.C_Ratio) := by
  have G_law_less : FnOk P w K mg base CX0 1 T.a_law_less T.fd_law_less ["num", "den"] spLess := ok_less T
  have G_law_is_integer : FnOk P w K mg base CX0 1 T.a_law_is_integer T.fd_law_is_integer ["actual"] spIsI := ok_isI T
  have G_Ratio_str : FnOk P w K mg base CX0 2 T.a_Ratio_str T.fd_Ratio_str ["self"] (spStr T.C_Ratio) := ok_str T
  refine T.F_law_is.ok sc_law_is (fun vs H Q E h => ?_) (fun cdv A outer s H vs Q E hr h => ?_)
  · obtain ⟨a, n, d, rfl, _⟩ := h
    rfl
  obtain ⟨a, n, d, rfl, hd, s1, s2, R, q⟩ := h
  refine ⟨_, (pss_cons (ps_set (i := 3) sc_law_is.nd rfl (Or.inl rfl) (pe_call G_law_less (hr.mono (by decide)) rfl T.g_law_less T.k_law_less T.b_law_less .nil pass0 (pa_cons (pv 1) (pa_cons (pv 2) pa_nil))))
    (pss_cons (ps_if (PW.pt (pw_or (pt_not (pt_val (pe_callB call_isi (by rfl) T.z_isinstance (by decide +kernel) (pa_cons (pv 0) (pa_cons (pe_glob (v := .ref T.C_Ratio) rfl T.g_Ratio rfl) pa_nil))))) (pw_or (pt_not (pt_val (pe_call G_law_is_integer (hr.mono (by decide)) rfl T.g_law_is_integer T.k_law_is_integer T.b_law_is_integer .nil pass0 (pa_cons (pe_fld (pv 0) rfl) pa_nil)))) (pw_or1 (pt_not (pt_val (pe_call G_law_is_integer (hr.mono (by decide)) rfl T.g_law_is_integer T.k_law_is_integer T.b_law_is_integer .nil pass0 (pa_cons (pe_fld (pv 0) rfl) pa_nil))))))))
      (pss_one (ps_ret pe_bl))
      pss_nil)
    (pss_cons (ps_set (i := 4) sc_law_is.nd rfl (Or.inl rfl) (pe_callTy call_str_int (by rfl) T.z_str (by decide +kernel) (pa_cons (pe_ix ix_tup (pv 3) pe_int (fun _ _ => rfl)) pa_nil)))
    (pss_cons (ps_if (pt_cmpR op_ne (pe_ix ix_tup (pv 3) pe_int (fun _ _ => rfl)) pe_int (nomark _))
      (pss_one (ps_set (i := 4) sc_law_is.nd rfl (Or.inl rfl) (pe_op op_add_str (pe_op op_add_str (pv 4) pe_str) (pe_callTy call_str_int (by rfl) T.z_str (by decide +kernel) (pa_cons (pe_ix ix_tup (pv 3) pe_int (fun _ _ => rfl)) pa_nil)))))
      pss_nil)
    (pss_one (ps_ret (pe_and (pe_cmpR (op_eqD hr.units) (pe_tup (pa_cons (pe_fld (pv 0) rfl) (pa_cons (pe_fld (pv 0) rfl) pa_nil))) (pv 3) (nomark _)) (pe_one (pe_cmpR op_eq (pe_callTy (call_strOwn G_Ratio_str (hr.mono (by decide)) T.b_Ratio_str pass0 T.m_Ratio_str.at_ T.m_Ratio_str.fn) (by rfl) T.z_str (by decide +kernel) (pa_cons (pv 0) pa_nil)) (pv 4) (nomark _)))))))))), ?_⟩
  have n1 := T.na_Ratio_num
  have n2 := T.na_Ratio_den
  refine ⟨_, rfl, _, rfl, n, d, rfl, hd, s1, s2, fun p H1 m1 h1 => ?_⟩
  have t1 : Sm 200 (red n d).1 := sm_red1 hd s1
  have t2 : Sm 200 (red n d).2 := sm_red2 hd s2
  generalize red n d = r at *
  obtain ⟨rn, rd⟩ := r
  dsimp only at *
  obtain ⟨dx, ha⟩ := R.same m1
  -- the kinds
  refine ⟨_, rfl, _, _, _, _, true, rfl, .own _, .base (.ins ha T.cl_Ratio T.ia_Ratio T.o_n T.o_t T.im_Ratio), T.ik_Ratio, true, rfl, iteF ?_⟩
  refine ⟨_, rfl, a, _, dx, _, _, rfl, ha, T.cl_Ratio, n1, rf_num _ _, _, rfl, true, rfl, iteF ?_⟩
  refine ⟨_, rfl, a, _, dx, _, _, rfl, ha, T.cl_Ratio, n2, rf_den _ _, _, rfl, true, rfl, iteF ?_⟩
  -- the end of both ways: the two comparisons
  have end_ : ∀ tx : Str, tx = rtext rn rd → ∀ H2, Same H1 H2 →
      tRet (tAndV (tOp (rEqD K) (tTup (tCons (tFld K (tVar 0) "num") (tCons (tFld K (tVar 0) "den") tNil))) (tVar 3)) (tOp rEq (tCB (rStrOwn T.C_Ratio (spStr T.C_Ratio) E0) (tCons (tVar 0) tNil)) (tVar 4)))
        { nx := fun _ H' => Q .non H', rt := Q } [some (.ref a), some (.int n), some (.int d), some (.ref p), some (.str tx)] H2 := by
    intro tx etx H2 m2
    have ha2 := m2 _ _ ha
    refine ⟨_, rfl, a, _, dx, _, _, rfl, ha2, T.cl_Ratio, n1, rf_num _ _, _, rfl, a, _, dx, _, _, rfl, ha2, T.cl_Ratio, n2, rf_den _ _, (by show 2 ≤ sizeLine; decide), fun p2 hp2 => ?_⟩
    refine ⟨_, rfl, .tuple [.int rn, .int rd], .tuple [.int rn, .int rd], .tup (SqT.of upd_same) (.cons (.int _) (.cons (.int _) .nil)), .tup (SqT.of (same_new hp2 _ _ _ (m2 _ _ h1))) (.cons (.int _) (.cons (.int _) .nil)), rfl, rfl, _, rfl, ?_⟩
    refine ite_yes (SeqAt.eqv_refl _ rfl) ?_
    have ha3 := same_new hp2 (HO.tup [V.int rn, V.int rd]) _ _ ha2
    refine ⟨_, rfl, a, dx, _, rfl, ha3, a, rn, rd, rfl, ⟨dx, ha3⟩, t1, t2, _, rfl, _, rfl, rfl, ?_⟩
    show Q (.bl (decide (V.str (rtext rn rd) = V.str tx))) _
    rw [decide_eq_true (by rw [etx])]
    exact q _ (m1.trans (m2.trans (same_new hp2 _)))
  refine ⟨_, rfl, p, _, _, _, rfl, rfl, SqT.of h1, rfl, _, rfl, log_lt t1, ?_⟩
  refine ⟨_, rfl, p, _, _, _, rfl, rfl, SqT.of h1, rfl, rfl, _, rfl, ?_⟩
  by_cases c : rd = 1
  · refine iteNS (congrArg V.int c) ?_
    exact end_ _ (by unfold rtext; rw [if_pos c]) H1 (Same.refl _)
  · refine ite_yes (by rw [decide_eq_false fun z => c (V.int.inj z)] <;> rfl) ?_
    have l1 := str_len t1
    have l2 := str_len t2
    have l3 : (Str.ofString (toString rn) ++ ("/" : Str)).length ≤ 202 := by
      rw [Str.length_append]
      exact Nat.add_le_add l1 (by decide +kernel : ("/" : Str).length ≤ 1)
    refine ⟨_, rfl, _, _, rfl, rfl, Nat.le_trans (Nat.add_le_add l1 (by decide +kernel : ("/" : Str).length ≤ 1)) (by decide), ?_⟩
    refine ⟨_, rfl, p, _, _, _, rfl, rfl, SqT.of h1, rfl, _, rfl, log_lt t2, ?_⟩
    refine ⟨_, _, rfl, rfl, Nat.le_trans (Nat.add_le_add l3 l2) (by decide), ?_⟩
    exact end_ _ (by unfold rtext; rw [if_neg c]) H1 (Same.refl _)
/-! ### the law -/
theorem tab6 {k : Int} : ∃ m : Int, atI ([.int 10, .int 100, .int 1000, .int 10000, .int 100000, .int 1000000] : List V) (k % 6) = some (.int m) ∧ 0 < m ∧ m ≤ 1000000 := by
  have h0 := Int.emod_nonneg k (by decide : (6 : Int) ≠ 0)
  have h1 := Int.emod_lt_of_pos k (by decide : (0 : Int) < 6)
  generalize k % 6 = r at *
  have : r = 0 ∨ r = 1 ∨ r = 2 ∨ r = 3 ∨ r = 4 ∨ r = 5 := by omega
  rcases this with rfl | rfl | rfl | rfl | rfl | rfl
  · exact ⟨10, rfl, by decide, by decide⟩
  · exact ⟨100, rfl, by decide, by decide⟩
  · exact ⟨1000, rfl, by decide, by decide⟩
  · exact ⟨10000, rfl, by decide, by decide⟩
  · exact ⟨100000, rfl, by decide, by decide⟩
  · exact ⟨1000000, rfl, by decide, by decide⟩
theorem pw9 : (10 : Int) ^ (9 : Int).toNat = 1000000000 := by decide
theorem sm_num (x : Int) : Sm 32 (x % (2 * 10 ^ (9 : Int).toNat) - 10 ^ (9 : Int).toNat) := by
  rw [pw9]
  show (x % (2 * 1000000000) - 1000000000).natAbs < 4294967296
  omega
theorem pos_den {x m : Int} (h : 0 < m) : 0 < 1 + x / 7 % m := by
  have := Int.emod_nonneg (x / 7) (by omega : m ≠ 0)
  omega
theorem sm_den {x m : Int} (h : 0 < m) (h2 : m ≤ 1000000) : Sm 21 (1 + x / 7 % m) := by
  have := Int.emod_nonneg (x / 7) (by omega : m ≠ 0)
  have := Int.emod_lt_of_pos (x / 7) h
  show (1 + x / 7 % m).natAbs < 2097152
  omega
theorem sm_k {k : Int} (h0 : 0 ≤ k) (h : k < 64) : Sm 7 k := by
  show k.natAbs < 128
  omega
theorem ok_law (T : Txt K mg) : FnOk P w K mg base CX0 12 T.a_law T.fd_law ["script"] (spLaw K) := by
  have G_law_cell : FnOk P w K mg base CX0 1 T.a_law_cell T.fd_law_cell ["script", "k"] (spCell K) := ok_cell T
  have G_law_is : FnOk P w K mg base CX0 6 T.a_law_is T.fd_law_is ["actual", "num", "den"] (spIs T.C_Ratio) := ok_is T
  have G_law_refused : FnOk P w K mg base CX0 3 T.a_law_refused T.fd_law_refused ["num", "den"] spRef := ok_refused T
  have G_Ratio_init : FnOk P w K mg base (L2.CX P w) 1 T.a_Ratio_init T.fd_Ratio_init ["self", "num", "den"] (spInit T.C_Ratio T.C_BadBound) := ok_init T
  have G_Ratio_add : FnOk P w K mg base CX0 3 T.a_Ratio_add T.fd_Ratio_add ["self", "other"] (spBin T.C_Ratio fun p q p' q' => (p * q' + p' * q, q * q')) := ok_add T
  have G_Ratio_sub : FnOk P w K mg base CX0 3 T.a_Ratio_sub T.fd_Ratio_sub ["self", "other"] (spBin T.C_Ratio fun p q p' q' => (p * q' - p' * q, q * q')) := ok_sub T
  have G_Ratio_mul : FnOk P w K mg base CX0 3 T.a_Ratio_mul T.fd_Ratio_mul ["self", "other"] (spBin T.C_Ratio fun p q p' q' => (p * p', q * q')) := ok_mul T
  have G_Ratio_below : FnOk P w K mg base CX0 1 T.a_Ratio_below T.fd_Ratio_below ["self", "other"] (spTst T.C_Ratio fun p q p' q' => decide (p * q' < p' * q)) := ok_below T
  have G_Ratio_eq : FnOk P w K mg base CX0 1 T.a_Ratio_eq T.fd_Ratio_eq ["self", "other"] (spTst T.C_Ratio fun p q p' q' => decide (p = p') && decide (q = q')) := ok_eq T
  refine T.F_law.ok sc_law (fun vs H Q E h => ?_) (fun cdv A outer s H vs Q E hr h => ?_)
  · obtain ⟨a, ns, rfl, _⟩ := h
    rfl
  obtain ⟨sa, ns, rfl, hS, hlen, q⟩ := h
  refine ⟨_, (pss_cons (ps_for PassesOwn.never rfl (pi_range1 (by rfl) T.z_range (pa_cons (pe_op op_fdivW (pe_op op_add (pe_callB call_len_seq (by rfl) T.z_len (by decide +kernel) (pa_cons (pv 0) pa_nil)) pe_int) pe_int) pa_nil)) (pg_name (i := 1) sc_law.nd rfl (Or.inl rfl))
      (pss_cons (ps_set (i := 2) sc_law.nd rfl (Or.inl rfl) (pe_op op_sub (pe_op op_mod (pe_callTy call_int1 (by rfl) T.z_int (by decide +kernel) (pa_cons (pe_call G_law_cell (hr.mono (by decide)) rfl T.g_law_cell T.k_law_cell T.b_law_cell .nil pass0 (pa_cons (pv 0) (pa_cons (pe_op op_mulW pe_int (pv 1)) pa_nil))) pa_nil)) (pe_op op_mulW pe_int (pe_op op_pow pe_int pe_int))) (pe_op op_pow pe_int pe_int)))
    (pss_cons (ps_set (i := 3) sc_law.nd rfl (Or.inl rfl) (pe_op op_sub (pe_op op_mod (pe_callTy call_int1 (by rfl) T.z_int (by decide +kernel) (pa_cons (pe_call G_law_cell (hr.mono (by decide)) rfl T.g_law_cell T.k_law_cell T.b_law_cell .nil pass0 (pa_cons (pv 0) (pa_cons (pe_op op_add (pe_op op_mulW pe_int (pv 1)) pe_int) pa_nil))) pa_nil)) (pe_op op_mulW pe_int (pe_op op_pow pe_int pe_int))) (pe_op op_pow pe_int pe_int)))
    (pss_cons (ps_set (i := 4) sc_law.nd rfl (Or.inl rfl) (pe_op op_add pe_int (pe_op op_mod (pe_op op_fdivW (pe_callTy call_int1 (by rfl) T.z_int (by decide +kernel) (pa_cons (pe_call G_law_cell (hr.mono (by decide)) rfl T.g_law_cell T.k_law_cell T.b_law_cell .nil pass0 (pa_cons (pv 0) (pa_cons (pe_op op_mulW pe_int (pv 1)) pa_nil))) pa_nil)) pe_int) (pe_ix ix_tup (pe_tup (pa_cons pe_int (pa_cons pe_int (pa_cons pe_int (pa_cons pe_int (pa_cons pe_int (pa_cons pe_int pa_nil))))))) (pe_op op_mod (pv 1) pe_int) (fun _ _ => rfl)))))
    (pss_cons (ps_set (i := 5) sc_law.nd rfl (Or.inl rfl) (pe_op op_add pe_int (pe_op op_mod (pe_op op_fdivW (pe_callTy call_int1 (by rfl) T.z_int (by decide +kernel) (pa_cons (pe_call G_law_cell (hr.mono (by decide)) rfl T.g_law_cell T.k_law_cell T.b_law_cell .nil pass0 (pa_cons (pv 0) (pa_cons (pe_op op_add (pe_op op_mulW pe_int (pv 1)) pe_int) pa_nil))) pa_nil)) pe_int) (pe_ix ix_tup (pe_tup (pa_cons pe_int (pa_cons pe_int (pa_cons pe_int (pa_cons pe_int (pa_cons pe_int (pa_cons pe_int pa_nil))))))) (pe_op op_mod (pv 1) pe_int) (fun _ _ => rfl)))))
    (pss_cons (ps_set (i := 6) sc_law.nd rfl (Or.inl rfl) (pe_make T.mk_Ratio G_Ratio_init (hr.mono (by decide)) rfl T.g_Ratio T.b_Ratio_init .nil passL (pa_cons (pv 2) (pa_cons (pv 4) pa_nil))))
    (pss_cons (ps_set (i := 7) sc_law.nd rfl (Or.inl rfl) (pe_make T.mk_Ratio G_Ratio_init (hr.mono (by decide)) rfl T.g_Ratio T.b_Ratio_init .nil passL (pa_cons (pv 3) (pa_cons (pv 5) pa_nil))))
    (pss_cons (ps_if (PW.pt (pw_or (pt_not (pt_val (pe_call G_law_is (hr.mono (by decide)) rfl T.g_law_is T.k_law_is T.b_law_is .nil pass0 (pa_cons (pv 6) (pa_cons (pv 2) (pa_cons (pv 4) pa_nil)))))) (pw_or1 (pt_not (pt_val (pe_call G_law_is (hr.mono (by decide)) rfl T.g_law_is T.k_law_is T.b_law_is .nil pass0 (pa_cons (pe_op (op_own G_Ratio_add (hr.mono (by decide)) T.b_Ratio_add pass0 T.sf_Ratio T.m_Ratio_add.at_ T.m_Ratio_add.fn) (pv 6) (pv 7)) (pa_cons (pe_op op_add (pe_op op_mulW (pv 2) (pv 5)) (pe_op op_mulW (pv 3) (pv 4))) (pa_cons (pe_op op_mulW (pv 4) (pv 5)) pa_nil)))))))))
      (pss_one (ps_ret pe_bl))
      pss_nil)
    (pss_cons (ps_if (PW.pt (pw_or (pt_not (pt_val (pe_call G_law_is (hr.mono (by decide)) rfl T.g_law_is T.k_law_is T.b_law_is .nil pass0 (pa_cons (pe_op (op_own G_Ratio_sub (hr.mono (by decide)) T.b_Ratio_sub pass0 T.sf_Ratio T.m_Ratio_sub.at_ T.m_Ratio_sub.fn) (pv 6) (pv 7)) (pa_cons (pe_op op_sub (pe_op op_mulW (pv 2) (pv 5)) (pe_op op_mulW (pv 3) (pv 4))) (pa_cons (pe_op op_mulW (pv 4) (pv 5)) pa_nil)))))) (pw_or1 (pt_not (pt_val (pe_call G_law_is (hr.mono (by decide)) rfl T.g_law_is T.k_law_is T.b_law_is .nil pass0 (pa_cons (pe_op (op_own G_Ratio_mul (hr.mono (by decide)) T.b_Ratio_mul pass0 T.sf_Ratio T.m_Ratio_mul.at_ T.m_Ratio_mul.fn) (pv 6) (pv 7)) (pa_cons (pe_op op_mulW (pv 2) (pv 3)) (pa_cons (pe_op op_mulW (pv 4) (pv 5)) pa_nil)))))))))
      (pss_one (ps_ret pe_bl))
      pss_nil)
    (pss_cons (ps_set (i := 8) sc_law.nd rfl (Or.inl rfl) (pe_meth (pv 6) T.cl_Ratio T.m_Ratio_below G_Ratio_below (hr.mono (by decide)) T.b_Ratio_below .nil pass0 (pa_cons (pv 7) pa_nil)))
    (pss_cons (ps_if (PW.pt (pw_or (pt_not (pt_val (pe_callB call_isi (by rfl) T.z_isinstance (by decide +kernel) (pa_cons (pv 8) (pa_cons (pe_bltn (v := .ty "bool") (by rfl) T.z_bool (by decide +kernel) rfl) pa_nil))))) (pw_or (pt_cmpR op_ne (pv 8) (pe_cmpR op_lt (pe_op op_mulW (pv 2) (pv 5)) (pe_op op_mulW (pv 3) (pv 4)) (nomark _)) (nomark _)) (pw_or1 (pt_cmpR op_ne (pe_cmpR (op_ownEq G_Ratio_eq (hr.mono (by decide)) T.b_Ratio_eq pass0 T.m_Ratio_eq.at_ T.m_Ratio_eq.fn) (pv 6) (pv 7) (nomark _)) (pe_cmpR op_eq (pe_op op_mulW (pv 2) (pv 5)) (pe_op op_mulW (pv 3) (pv 4)) (nomark _)) (nomark _))))))
      (pss_one (ps_ret pe_bl))
      pss_nil)
    (pss_one (ps_if (PW.pt (pw_or (pt_not (pt_val (pe_call G_law_refused (hr.mono (by decide)) rfl T.g_law_refused T.k_law_refused T.b_law_refused .nil pass0 (pa_cons (pv 2) (pa_cons pe_int pa_nil))))) (pw_or1 (pt_not (pt_val (pe_call G_law_refused (hr.mono (by decide)) rfl T.g_law_refused T.k_law_refused T.b_law_refused .nil pass0 (pa_cons (pv 2) (pa_cons (pe_un un_neg (pv 4)) pa_nil))))))))
      (pss_one (ps_ret pe_bl))
      pss_nil)))))))))))))
    (pss_one (ps_ret (pe_call G_law_is (hr.mono (by decide)) rfl T.g_law_is T.k_law_is T.b_law_is .nil pass0 (pa_cons (pe_make T.mk_Ratio G_Ratio_init (hr.mono (by decide)) rfl T.g_Ratio T.db0_Ratio_init T.dv0_Ratio_init passL (pa_cons pe_int pa_nil)) (pa_cons pe_int (pa_cons pe_int pa_nil))))))), ?_⟩
  have ndx : T.C_Ratio = T.C_Ratio := rfl
  refine ⟨_, rfl, sa, _, rfl, .inl hS, _, _, rfl, rfl, _, _, rfl, rfl, ⟨by decide, by decide⟩, _, rfl, ?_, ?_, for_range (lo := 0) (fun i σ H' => Same H H' ∧ ∃ (v1 v2 v3 v4 v5 v6 v7 v8 : Option V), σ = [some (.ref sa), v1, v2, v3, v4, v5, v6, v7, v8])
    ⟨Same.refl _, none, none, none, none, none, none, none, none, rfl⟩ ?_ ?_⟩
  · rw [List.length_map]; omega
  · rw [List.length_map]; omega
  · rintro i σ H1 hi ⟨m1, v1, v2, v3, v4, v5, v6, v7, v8, rfl⟩
    rw [List.length_map] at hi
    have k0 : (0 : Int) ≤ 0 + (i : Int) := by omega
    have k1 : (0 : Int) + (i : Int) < 64 := by omega
    generalize (0 : Int) + (i : Int) = k at *
    have sk := sm_k k0 k1
    have hS1 := m1.seq hS
    have two : Sm 2 (2 : Int) := by decide
    -- a, c
    refine ⟨_, rfl, _, rfl, _, _, rfl, rfl, cmul two sk, sa, ns, _, rfl, hS1, by omega, fun x1 => .inl ⟨_, rfl, _, _, rfl, rfl, ⟨by decide, by decide, by decide⟩, ?_⟩⟩
    have p9 : Sm 31 ((10 : Int) ^ (9 : Int).toNat) := by rw [pw9]; decide
    have q9 : (0 : Int) < 2 * 10 ^ (9 : Int).toNat := by rw [pw9]; decide
    refine ⟨_, _, rfl, rfl, cmul two p9, _, _, rfl, rfl, q9, _, _, rfl, rfl, ⟨by decide, by decide, by decide⟩, _, _, rfl, rfl, ?_⟩
    have sa1 := sm_num x1
    dsimp only
    generalize x1 % (2 * 10 ^ (9 : Int).toNat) - 10 ^ (9 : Int).toNat = a at *
    refine ⟨_, rfl, _, rfl, _, _, rfl, rfl, cmul two sk, _, _, rfl, rfl, sa, ns, _, rfl, hS1, by omega, fun x2 => .inl ⟨_, rfl, _, _, rfl, rfl, ⟨by decide, by decide, by decide⟩, ?_⟩⟩
    refine ⟨_, _, rfl, rfl, cmul two p9, _, _, rfl, rfl, q9, _, _, rfl, rfl, ⟨by decide, by decide, by decide⟩, _, _, rfl, rfl, ?_⟩
    have sc1 := sm_num x2
    dsimp only
    generalize x2 % (2 * 10 ^ (9 : Int).toNat) - 10 ^ (9 : Int).toNat = c at *
    obtain ⟨m, hm, m0, m6⟩ := tab6 (k := k)
    -- b, d
    refine ⟨_, rfl, _, rfl, _, _, rfl, rfl, cmul two sk, sa, ns, _, rfl, hS1, by omega, fun x3 => .inl ⟨_, rfl, _, _, rfl, rfl, ⟨by decide, by decide⟩, ?_⟩⟩
    refine ⟨(by show 6 ≤ sizeLine; decide), fun p1 np1 => ⟨_, rfl, _, _, rfl, rfl, (by show (0 : Int) < 6; decide), p1, _, _, _, rfl, rfl, SqT.of upd_same, hm, _, _, rfl, rfl, m0, _, _, rfl, rfl, ?_⟩⟩
    have b0 := pos_den (x := x3) m0
    have sb1 := sm_den (x := x3) m0 m6
    dsimp only
    generalize 1 + x3 / 7 % m = b at *
    have m2 := m1.trans (same_new np1 (.tup [.int 10, .int 100, .int 1000, .int 10000, .int 100000, .int 1000000]))
    refine ⟨_, rfl, _, rfl, _, _, rfl, rfl, cmul two sk, _, _, rfl, rfl, sa, ns, _, rfl, m2.seq hS, by omega, fun x4 => .inl ⟨_, rfl, _, _, rfl, rfl, ⟨by decide, by decide⟩, ?_⟩⟩
    refine ⟨(by show 6 ≤ sizeLine; decide), fun p2 np2 => ⟨_, rfl, _, _, rfl, rfl, (by show (0 : Int) < 6; decide), p2, _, _, _, rfl, rfl, SqT.of upd_same, hm, _, _, rfl, rfl, m0, _, _, rfl, rfl, ?_⟩⟩
    have d0 := pos_den (x := x4) m0
    have sd1 := sm_den (x := x4) m0 m6
    dsimp only
    generalize 1 + x4 / 7 % m = d at *
    have m3 := m2.trans (same_new np2 (.tup [.int 10, .int 100, .int 1000, .int 10000, .int 100000, .int 1000000]))
    revert m3
    generalize upd (upd H1 p1 _) p2 _ = H3
    intro m3
    -- one, other
    refine ⟨_, rfl, _, rfl, fun x dx nx nd ne => ⟨x, dx, a, b, rfl, upd_same, sa1.mono (by decide), sb1.mono (by decide), fun z => absurd b0 (by omega), fun _ H4 R1 hk1 => ⟨rfl, ?_⟩⟩⟩
    have m4 : Same H3 H4 := fun e o z => hk1 e o (same_make nx nd e o z) (ne_of_none z nx)
    refine ⟨_, rfl, _, rfl, fun y dy ny ndy ney => ⟨y, dy, c, d, rfl, upd_same, sc1.mono (by decide), sd1.mono (by decide), fun z => absurd d0 (by omega), fun _ H5 R2 hk2 => ⟨rfl, ?_⟩⟩⟩
    have m5 : Same H4 H5 := fun e o z => hk2 e o (same_make ny ndy e o z) (ne_of_none z ny)
    have R1' := R1.same m5
    have m6' : Same H H5 := m3.trans (m4.trans m5)
    -- sizes
    have ta1 : Sm 90 (red a b).1 := (sm_red1 b0 sa1).mono (by decide)
    have tb1 : Sm 90 (red a b).2 := (sm_red2 b0 sb1).mono (by decide)
    have tc1 : Sm 90 (red c d).1 := (sm_red1 d0 sc1).mono (by decide)
    have td1 : Sm 90 (red c d).2 := (sm_red2 d0 sd1).mono (by decide)
    have rb0 := red_pos (n := a) b0
    have rd0 := red_pos (n := c) d0
    have bd0 := Int.mul_pos b0 d0
    have sad : Sm 200 (a * d + c * b) := (sm_add ((sm_mul sa1 sd1).mono (by decide : 32 + 21 ≤ 60)) ((sm_mul sc1 sb1).mono (by decide : 32 + 21 ≤ 60))).mono (by decide)
    have ssb : Sm 200 (a * d - c * b) := (sm_sub ((sm_mul sa1 sd1).mono (by decide : 32 + 21 ≤ 60)) ((sm_mul sc1 sb1).mono (by decide : 32 + 21 ≤ 60))).mono (by decide)
    have sac : Sm 200 (a * c) := (sm_mul sa1 sc1).mono (by decide)
    have sbd : Sm 200 (b * d) := (sm_mul sb1 sd1).mono (by decide)
    have ead := red_add (a := a) (c := c) b0 d0
    have esb := red_sub (a := a) (c := c) b0 d0
    have emu := red_mul (a := a) (c := c) b0 d0
    have elt := red_lt (a := a) (c := c) b0 d0
    have eeq := red_eq_iff (a := a) (c := c) b0 d0
    -- one is a / b; the sum
    refine ⟨_, rfl, _, rfl, _, rfl, x, a, b, rfl, b0, sa1.mono (by decide), sb1.mono (by decide), R1', fun H6 g6 => ⟨true, rfl, iteF ?_⟩⟩
    have R16 := R1'.same g6
    have R26 := R2.same g6
    refine ⟨_, rfl, _, rfl, ?_⟩
    obtain ⟨dx6, hx6⟩ := id R16
    obtain ⟨dy6, hy6⟩ := id R26
    refine ⟨x, y, dx6, dy6, _, _, rfl, rfl, hx6, hy6, x, y, _, _, _, _, rfl, R16, R26, rb0, rd0, ta1, tb1, tc1, td1, fun z7 H7 g7 R7 => ?_⟩
    refine ⟨_, rfl, _, rfl, _, _, rfl, rfl, cmul sa1 sd1, _, rfl, _, rfl, _, _, rfl, rfl, cmul sc1 sb1, _, _, rfl, rfl, _, rfl, _, rfl, _, _, rfl, rfl, cmul sb1 sd1, ?_⟩
    rw [ead] at R7
    refine ⟨z7, _, _, rfl, bd0, sad, sbd, R7, fun H8 g8 => ⟨true, rfl, iteF ?_⟩⟩
    have g58 : Same H5 H8 := g6.trans (g7.trans g8)
    clear R7 R16 R26 hx6 hy6 g6 g7 g8
    -- the difference
    have R18 := R1'.same g58
    have R28 := R2.same g58
    refine ⟨_, rfl, _, rfl, ?_⟩
    obtain ⟨dx8, hx8⟩ := id R18
    obtain ⟨dy8, hy8⟩ := id R28
    refine ⟨x, y, dx8, dy8, _, _, rfl, rfl, hx8, hy8, x, y, _, _, _, _, rfl, R18, R28, rb0, rd0, ta1, tb1, tc1, td1, fun z9 H9 g9 R9 => ?_⟩
    refine ⟨_, rfl, _, rfl, _, _, rfl, rfl, cmul sa1 sd1, _, rfl, _, rfl, _, _, rfl, rfl, cmul sc1 sb1, _, _, rfl, rfl, _, rfl, _, rfl, _, _, rfl, rfl, cmul sb1 sd1, ?_⟩
    rw [esb] at R9
    refine ⟨z9, _, _, rfl, bd0, ssb, sbd, R9, fun H10 g10 => ⟨true, rfl, iteF ?_⟩⟩
    have g510 : Same H5 H10 := g58.trans (g9.trans g10)
    clear R9 R18 R28 hx8 hy8 g58 g9 g10
    -- the product
    have R110 := R1'.same g510
    have R210 := R2.same g510
    refine ⟨_, rfl, _, rfl, ?_⟩
    obtain ⟨dxa, hxa⟩ := id R110
    obtain ⟨dya, hya⟩ := id R210
    refine ⟨x, y, dxa, dya, _, _, rfl, rfl, hxa, hya, x, y, _, _, _, _, rfl, R110, R210, rb0, rd0, ta1, tb1, tc1, td1, fun zb Hb gb Rb => ?_⟩
    refine ⟨_, rfl, _, rfl, _, _, rfl, rfl, cmul sa1 sc1, _, rfl, _, rfl, _, _, rfl, rfl, cmul sb1 sd1, ?_⟩
    rw [emu] at Rb
    refine ⟨zb, _, _, rfl, bd0, sac, sbd, Rb, fun Hc gc => ⟨true, rfl, iteF ?_⟩⟩
    have g5c : Same H5 Hc := g510.trans (gb.trans gc)
    clear Rb R110 R210 hxa hya g510 gb gc
    have R1c := R1'.same g5c
    have R2c := R2.same g5c
    obtain ⟨dxc, hxc⟩ := id R1c
    obtain ⟨dyc, hyc⟩ := id R2c
    -- told
    refine ⟨_, rfl, x, dxc, _, rfl, hxc, rf_no _ _ (by decide +kernel) (by decide +kernel), _, rfl, x, y, _, _, _, _, rfl, R1c, R2c, ta1, tb1, tc1, td1, ?_⟩
    refine ⟨_, rfl, _, _, _, _, true, rfl, .ty _, .base (.bl _), kit_ty (by decide +kernel), true, rfl, iteF ?_⟩
    refine ⟨_, rfl, _, rfl, _, rfl, _, _, rfl, rfl, cmul sa1 sd1, _, rfl, _, rfl, _, _, rfl, rfl, cmul sc1 sb1, _, _, rfl, rfl, rfl, _, rfl, ?_⟩
    have t1 : (!decide (V.bl (decide ((red a b).1 * (red c d).2 < (red c d).1 * (red a b).2)) = V.bl (decide (a * d < c * b)))) = false := by
      have z : decide ((red a b).1 * (red c d).2 < (red c d).1 * (red a b).2) = decide (a * d < c * b) := decide_eq_decide.mpr elt
      rw [z]
      simp
    refine ite_no (by rw [t1]; exact Bool.false_ne_true) ?_
    refine ⟨_, rfl, _, rfl, x, y, dxc, dyc, _, _, rfl, rfl, hxc, hyc, x, y, _, _, _, _, rfl, R1c, R2c, ta1, tb1, tc1, td1, ?_⟩
    refine ⟨_, rfl, _, rfl, _, _, rfl, rfl, cmul sa1 sd1, _, rfl, _, rfl, _, _, rfl, rfl, cmul sc1 sb1, rfl, rfl, _, rfl, ?_⟩
    have t2 : (!decide (V.bl (decide ((red a b).1 = (red c d).1) && decide ((red a b).2 = (red c d).2)) = V.bl (decide (V.int (a * d) = V.int (c * b))))) = false := by
      have z : (decide ((red a b).1 = (red c d).1) && decide ((red a b).2 = (red c d).2)) = decide (V.int (a * d) = V.int (c * b)) := by
        rw [← Bool.decide_and]
        refine decide_eq_decide.mpr ⟨fun h => congrArg V.int (eeq.mp (Prod.ext h.1 h.2)), fun h => ?_⟩
        have e := eeq.mpr (V.int.inj h)
        rw [e]
        exact ⟨rfl, rfl⟩
      rw [z]
      simp
    refine ite_no (by rw [t2]; exact Bool.false_ne_true) ?_
    -- what is refused
    refine ⟨_, rfl, a, 0, rfl, Int.le_refl 0, sa1.mono (by decide), (by decide), fun Hd gd => ⟨true, rfl, iteF ?_⟩⟩
    refine ⟨_, rfl, _, rfl, _, rfl, a, -b, rfl, by omega, sa1.mono (by decide), (by show (-b).natAbs < 2 ^ 200; rw [Int.natAbs_neg]; exact sb1.mono (by decide)), fun He ge => ⟨true, rfl, iteF ?_⟩⟩
    exact ⟨m6'.trans (g5c.trans (gd.trans ge)), _, _, _, _, _, _, _, _, rfl⟩
  · rintro σ H1 ⟨m1, v1, v2, v3, v4, v5, v6, v7, v8, rfl⟩
    intro x dx nx nd ne
    refine ⟨x, dx, 7, 1, rfl, upd_same, by decide, by decide, fun z => absurd z (by decide), fun _ H' hR hk => ⟨rfl, ?_⟩⟩
    exact ⟨x, 7, 1, rfl, by decide, by decide, by decide, hR, fun H2 m2 => q H2⟩
end
/-! ### the program's top -/
theorem all_mk {l : PySem.W.OpenLaw} {w : World} {K : PySem.W.Frag} {h : Heap} {mg : Str → Option Value} {fa : Addr} (X : K.In h) (G : h.Ns mainGlobals mg) (hfa : mg "law" = some (.ref fa))
    {C_Ratio : Addr}
    {od_decimals an_decimals : Option Addr} {sl_decimals : Array (Option Value)} {oc_decimals kV_decimals dc_decimals pm_decimals cd_decimals ct_decimals : Value} {a_decimals : Addr}
    {od_Ratio_init an_Ratio_init : Option Addr} {sl_Ratio_init : Array (Option Value)} {oc_Ratio_init kV_Ratio_init dc_Ratio_init pm_Ratio_init cd_Ratio_init ct_Ratio_init : Value} {a_Ratio_init : Addr} {dT_Ratio_init : Addr} {dc2_Ratio_init : Value} {dd2_Ratio_init : Option Addr} {dn_Ratio_init : Nat} {dsl_Ratio_init : Array (Option Value)} {tk0_Ratio_init : Tok}
    {od_Ratio_add an_Ratio_add : Option Addr} {sl_Ratio_add : Array (Option Value)} {oc_Ratio_add kV_Ratio_add dc_Ratio_add pm_Ratio_add cd_Ratio_add ct_Ratio_add : Value} {a_Ratio_add : Addr}
    {od_Ratio_sub an_Ratio_sub : Option Addr} {sl_Ratio_sub : Array (Option Value)} {oc_Ratio_sub kV_Ratio_sub dc_Ratio_sub pm_Ratio_sub cd_Ratio_sub ct_Ratio_sub : Value} {a_Ratio_sub : Addr}
    {od_Ratio_mul an_Ratio_mul : Option Addr} {sl_Ratio_mul : Array (Option Value)} {oc_Ratio_mul kV_Ratio_mul dc_Ratio_mul pm_Ratio_mul cd_Ratio_mul ct_Ratio_mul : Value} {a_Ratio_mul : Addr}
    {od_Ratio_eq an_Ratio_eq : Option Addr} {sl_Ratio_eq : Array (Option Value)} {oc_Ratio_eq kV_Ratio_eq dc_Ratio_eq pm_Ratio_eq cd_Ratio_eq ct_Ratio_eq : Value} {a_Ratio_eq : Addr}
    {od_Ratio_str an_Ratio_str : Option Addr} {sl_Ratio_str : Array (Option Value)} {oc_Ratio_str kV_Ratio_str dc_Ratio_str pm_Ratio_str cd_Ratio_str ct_Ratio_str : Value} {a_Ratio_str : Addr}
    {od_Ratio_below an_Ratio_below : Option Addr} {sl_Ratio_below : Array (Option Value)} {oc_Ratio_below kV_Ratio_below dc_Ratio_below pm_Ratio_below cd_Ratio_below ct_Ratio_below : Value} {a_Ratio_below : Addr}
    {od_law_cell an_law_cell : Option Addr} {sl_law_cell : Array (Option Value)} {oc_law_cell kV_law_cell dc_law_cell pm_law_cell cd_law_cell ct_law_cell : Value} {a_law_cell : Addr}
    {od_law_is_integer an_law_is_integer : Option Addr} {sl_law_is_integer : Array (Option Value)} {oc_law_is_integer kV_law_is_integer dc_law_is_integer pm_law_is_integer cd_law_is_integer ct_law_is_integer : Value} {a_law_is_integer : Addr}
    {od_law_less an_law_less : Option Addr} {sl_law_less : Array (Option Value)} {oc_law_less kV_law_less dc_law_less pm_law_less cd_law_less ct_law_less : Value} {a_law_less : Addr}
    {od_law_is an_law_is : Option Addr} {sl_law_is : Array (Option Value)} {oc_law_is kV_law_is dc_law_is pm_law_is cd_law_is ct_law_is : Value} {a_law_is : Addr}
    {od_law_refused an_law_refused : Option Addr} {sl_law_refused : Array (Option Value)} {oc_law_refused kV_law_refused dc_law_refused pm_law_refused cd_law_refused ct_law_refused : Value} {a_law_refused : Addr}
    {od_law an_law : Option Addr} {sl_law : Array (Option Value)} {oc_law kV_law dc_law pm_law cd_law ct_law : Value} {a_law : Addr}
    {C_BadBound : Addr}
    {C_PlayError : Addr}
    {C_BadText : Addr}
    {C_BadPaper : Addr}
    {C_BadCall : Addr}
    {C_BadPlayer : Addr}
    {C_BadStep : Addr}
    {C_TooLarge : Addr}
    {tk_CHUNK : Tok}
    (o_n : PySem.W.specialIn K (.builtin "object.__class__") "__get__" = some (some (.builtin "getset_descriptor.__get__")))
    (o_t : PySem.W.takesIn K (.builtin "object.__class__") = some true)
    (hC_Ratio : PySem.W.nsIn K mainGlobals "Ratio" = some (some (.ref C_Ratio)))
    (pg_Ratio : PySem.W.plainGet K C_Ratio Str.empty = true)
    (hd_Ratio : PySem.W.hasDictIn K C_Ratio = true)
    (po_Ratio : PySem.W.plainOver K C_Ratio = true)
    (sa_Ratio : PySem.W.findIn K (.ref C_Ratio) "__setattr__" = some (some (.builtin "object.__setattr__")))
    (mk_Ratio : PySem.W.makesIn K C_Ratio = true)
    (kc_Ratio : PySem.W.keepIn K (.ref C_Ratio) = true)
    (sf_Ratio : PySem.W.selfFirst K C_Ratio = true)
    (na_Ratio_num : PySem.W.findIn K (.ref C_Ratio) "num" = some none)
    (na_Ratio_den : PySem.W.findIn K (.ref C_Ratio) "den" = some none)
    (ia_Ratio : PySem.W.findIn K (.ref C_Ratio) "__class__" = some (some (.builtin "object.__class__")))
    (im_Ratio : PySem.W.mroIn K C_Ratio (.type "object") = some true)
    (ik_Ratio : PySem.W.kitOne K (.ref C_Ratio) (.ref C_Ratio) = some true)
    (h_decimals : PySem.W.nsIn K mainGlobals "decimals" = some (some (.ref a_decimals)))
    (l_decimals : K.lookup a_decimals = some ⟨oc_decimals, od_decimals, .func (PySem.W.fnOf "decimals" "decimals" (defArgs s_decimals) (defBody s_decimals) (defScope s_decimals) .none kV_decimals dc_decimals pm_decimals an_decimals cd_decimals ct_decimals), sl_decimals⟩)
    (c_decimals : PySem.W.codeIn K cd_decimals "decimals" = true)
    (k_decimals : PySem.W.keepIn K (.ref a_decimals) = true)
    (h_Ratio_init : PySem.W.findIn K (.ref C_Ratio) "__init__" = some (some (.ref a_Ratio_init)))
    (i_Ratio_init : PySem.W.isFn K (.ref a_Ratio_init) = true)
    (l_Ratio_init : K.lookup a_Ratio_init = some ⟨oc_Ratio_init, od_Ratio_init, .func (PySem.W.fnOf "__init__" "Ratio.__init__" (defArgs s_Ratio_init) (defBody s_Ratio_init) (defScope s_Ratio_init) (.ref dT_Ratio_init) kV_Ratio_init dc_Ratio_init pm_Ratio_init an_Ratio_init cd_Ratio_init ct_Ratio_init), sl_Ratio_init⟩)
    (dl_Ratio_init : K.lookup dT_Ratio_init = some ⟨dc2_Ratio_init, dd2_Ratio_init, .seq #[.int 1 tk0_Ratio_init] dn_Ratio_init, dsl_Ratio_init⟩)
    (c_Ratio_init : PySem.W.codeIn K cd_Ratio_init "Ratio.__init__" = true)
    (k_Ratio_init : PySem.W.keepIn K (.ref a_Ratio_init) = true)
    (h_Ratio_add : PySem.W.findIn K (.ref C_Ratio) "__add__" = some (some (.ref a_Ratio_add)))
    (i_Ratio_add : PySem.W.isFn K (.ref a_Ratio_add) = true)
    (l_Ratio_add : K.lookup a_Ratio_add = some ⟨oc_Ratio_add, od_Ratio_add, .func (PySem.W.fnOf "__add__" "Ratio.__add__" (defArgs s_Ratio_add) (defBody s_Ratio_add) (defScope s_Ratio_add) .none kV_Ratio_add dc_Ratio_add pm_Ratio_add an_Ratio_add cd_Ratio_add ct_Ratio_add), sl_Ratio_add⟩)
    (c_Ratio_add : PySem.W.codeIn K cd_Ratio_add "Ratio.__add__" = true)
    (k_Ratio_add : PySem.W.keepIn K (.ref a_Ratio_add) = true)
    (h_Ratio_sub : PySem.W.findIn K (.ref C_Ratio) "__sub__" = some (some (.ref a_Ratio_sub)))
    (i_Ratio_sub : PySem.W.isFn K (.ref a_Ratio_sub) = true)
    (l_Ratio_sub : K.lookup a_Ratio_sub = some ⟨oc_Ratio_sub, od_Ratio_sub, .func (PySem.W.fnOf "__sub__" "Ratio.__sub__" (defArgs s_Ratio_sub) (defBody s_Ratio_sub) (defScope s_Ratio_sub) .none kV_Ratio_sub dc_Ratio_sub pm_Ratio_sub an_Ratio_sub cd_Ratio_sub ct_Ratio_sub), sl_Ratio_sub⟩)
    (c_Ratio_sub : PySem.W.codeIn K cd_Ratio_sub "Ratio.__sub__" = true)
    (k_Ratio_sub : PySem.W.keepIn K (.ref a_Ratio_sub) = true)
    (h_Ratio_mul : PySem.W.findIn K (.ref C_Ratio) "__mul__" = some (some (.ref a_Ratio_mul)))
    (i_Ratio_mul : PySem.W.isFn K (.ref a_Ratio_mul) = true)
    (l_Ratio_mul : K.lookup a_Ratio_mul = some ⟨oc_Ratio_mul, od_Ratio_mul, .func (PySem.W.fnOf "__mul__" "Ratio.__mul__" (defArgs s_Ratio_mul) (defBody s_Ratio_mul) (defScope s_Ratio_mul) .none kV_Ratio_mul dc_Ratio_mul pm_Ratio_mul an_Ratio_mul cd_Ratio_mul ct_Ratio_mul), sl_Ratio_mul⟩)
    (c_Ratio_mul : PySem.W.codeIn K cd_Ratio_mul "Ratio.__mul__" = true)
    (k_Ratio_mul : PySem.W.keepIn K (.ref a_Ratio_mul) = true)
    (h_Ratio_eq : PySem.W.findIn K (.ref C_Ratio) "__eq__" = some (some (.ref a_Ratio_eq)))
    (i_Ratio_eq : PySem.W.isFn K (.ref a_Ratio_eq) = true)
    (l_Ratio_eq : K.lookup a_Ratio_eq = some ⟨oc_Ratio_eq, od_Ratio_eq, .func (PySem.W.fnOf "__eq__" "Ratio.__eq__" (defArgs s_Ratio_eq) (defBody s_Ratio_eq) (defScope s_Ratio_eq) .none kV_Ratio_eq dc_Ratio_eq pm_Ratio_eq an_Ratio_eq cd_Ratio_eq ct_Ratio_eq), sl_Ratio_eq⟩)
    (c_Ratio_eq : PySem.W.codeIn K cd_Ratio_eq "Ratio.__eq__" = true)
    (k_Ratio_eq : PySem.W.keepIn K (.ref a_Ratio_eq) = true)
    (h_Ratio_str : PySem.W.findIn K (.ref C_Ratio) "__str__" = some (some (.ref a_Ratio_str)))
    (i_Ratio_str : PySem.W.isFn K (.ref a_Ratio_str) = true)
    (l_Ratio_str : K.lookup a_Ratio_str = some ⟨oc_Ratio_str, od_Ratio_str, .func (PySem.W.fnOf "__str__" "Ratio.__str__" (defArgs s_Ratio_str) (defBody s_Ratio_str) (defScope s_Ratio_str) .none kV_Ratio_str dc_Ratio_str pm_Ratio_str an_Ratio_str cd_Ratio_str ct_Ratio_str), sl_Ratio_str⟩)
    (c_Ratio_str : PySem.W.codeIn K cd_Ratio_str "Ratio.__str__" = true)
    (k_Ratio_str : PySem.W.keepIn K (.ref a_Ratio_str) = true)
    (h_Ratio_below : PySem.W.findIn K (.ref C_Ratio) "below" = some (some (.ref a_Ratio_below)))
    (i_Ratio_below : PySem.W.isFn K (.ref a_Ratio_below) = true)
    (l_Ratio_below : K.lookup a_Ratio_below = some ⟨oc_Ratio_below, od_Ratio_below, .func (PySem.W.fnOf "below" "Ratio.below" (defArgs s_Ratio_below) (defBody s_Ratio_below) (defScope s_Ratio_below) .none kV_Ratio_below dc_Ratio_below pm_Ratio_below an_Ratio_below cd_Ratio_below ct_Ratio_below), sl_Ratio_below⟩)
    (c_Ratio_below : PySem.W.codeIn K cd_Ratio_below "Ratio.below" = true)
    (k_Ratio_below : PySem.W.keepIn K (.ref a_Ratio_below) = true)
    (h_law_cell : PySem.W.nsIn K mainGlobals "_law_cell" = some (some (.ref a_law_cell)))
    (l_law_cell : K.lookup a_law_cell = some ⟨oc_law_cell, od_law_cell, .func (PySem.W.fnOf "_law_cell" "_law_cell" (defArgs s_law_cell) (defBody s_law_cell) (defScope s_law_cell) .none kV_law_cell dc_law_cell pm_law_cell an_law_cell cd_law_cell ct_law_cell), sl_law_cell⟩)
    (c_law_cell : PySem.W.codeIn K cd_law_cell "_law_cell" = true)
    (k_law_cell : PySem.W.keepIn K (.ref a_law_cell) = true)
    (h_law_is_integer : PySem.W.nsIn K mainGlobals "_law_is_integer" = some (some (.ref a_law_is_integer)))
    (l_law_is_integer : K.lookup a_law_is_integer = some ⟨oc_law_is_integer, od_law_is_integer, .func (PySem.W.fnOf "_law_is_integer" "_law_is_integer" (defArgs s_law_is_integer) (defBody s_law_is_integer) (defScope s_law_is_integer) .none kV_law_is_integer dc_law_is_integer pm_law_is_integer an_law_is_integer cd_law_is_integer ct_law_is_integer), sl_law_is_integer⟩)
    (c_law_is_integer : PySem.W.codeIn K cd_law_is_integer "_law_is_integer" = true)
    (k_law_is_integer : PySem.W.keepIn K (.ref a_law_is_integer) = true)
    (h_law_less : PySem.W.nsIn K mainGlobals "_law_less" = some (some (.ref a_law_less)))
    (l_law_less : K.lookup a_law_less = some ⟨oc_law_less, od_law_less, .func (PySem.W.fnOf "_law_less" "_law_less" (defArgs s_law_less) (defBody s_law_less) (defScope s_law_less) .none kV_law_less dc_law_less pm_law_less an_law_less cd_law_less ct_law_less), sl_law_less⟩)
    (c_law_less : PySem.W.codeIn K cd_law_less "_law_less" = true)
    (k_law_less : PySem.W.keepIn K (.ref a_law_less) = true)
    (h_law_is : PySem.W.nsIn K mainGlobals "_law_is" = some (some (.ref a_law_is)))
    (l_law_is : K.lookup a_law_is = some ⟨oc_law_is, od_law_is, .func (PySem.W.fnOf "_law_is" "_law_is" (defArgs s_law_is) (defBody s_law_is) (defScope s_law_is) .none kV_law_is dc_law_is pm_law_is an_law_is cd_law_is ct_law_is), sl_law_is⟩)
    (c_law_is : PySem.W.codeIn K cd_law_is "_law_is" = true)
    (k_law_is : PySem.W.keepIn K (.ref a_law_is) = true)
    (h_law_refused : PySem.W.nsIn K mainGlobals "_law_refused" = some (some (.ref a_law_refused)))
    (l_law_refused : K.lookup a_law_refused = some ⟨oc_law_refused, od_law_refused, .func (PySem.W.fnOf "_law_refused" "_law_refused" (defArgs s_law_refused) (defBody s_law_refused) (defScope s_law_refused) .none kV_law_refused dc_law_refused pm_law_refused an_law_refused cd_law_refused ct_law_refused), sl_law_refused⟩)
    (c_law_refused : PySem.W.codeIn K cd_law_refused "_law_refused" = true)
    (k_law_refused : PySem.W.keepIn K (.ref a_law_refused) = true)
    (h_law : PySem.W.nsIn K mainGlobals "law" = some (some (.ref a_law)))
    (l_law : K.lookup a_law = some ⟨oc_law, od_law, .func (PySem.W.fnOf "law" "law" (defArgs s_law) (defBody s_law) (defScope s_law) .none kV_law dc_law pm_law an_law cd_law ct_law), sl_law⟩)
    (c_law : PySem.W.codeIn K cd_law "law" = true)
    (k_law : PySem.W.keepIn K (.ref a_law) = true)
    (hC_BadBound : PySem.W.nsIn K mainGlobals "BadBound" = some (some (.ref C_BadBound)))
    (kc_BadBound : PySem.W.keepIn K (.ref C_BadBound) = true)
    (xb_BadBound : PySem.W.subIn K (.ref C_BadBound) (.type "BaseException") = some true)
    (xt_BadBound : PySem.W.typeIn K (.ref C_BadBound) = some (.type "type"))
    (xd_BadBound : PySem.W.hasDictIn K C_BadBound = true)
    (x_BadBound : PySem.W.excIn K C_BadBound [.type "ValueError", .type "Exception", .type "BaseException", .type "object"] "ValueError.__new__" = true)
    (hC_PlayError : PySem.W.nsIn K mainGlobals "PlayError" = some (some (.ref C_PlayError)))
    (kc_PlayError : PySem.W.keepIn K (.ref C_PlayError) = true)
    (xb_PlayError : PySem.W.subIn K (.ref C_PlayError) (.type "BaseException") = some true)
    (xt_PlayError : PySem.W.typeIn K (.ref C_PlayError) = some (.type "type"))
    (xd_PlayError : PySem.W.hasDictIn K C_PlayError = true)
    (hC_BadText : PySem.W.nsIn K mainGlobals "BadText" = some (some (.ref C_BadText)))
    (kc_BadText : PySem.W.keepIn K (.ref C_BadText) = true)
    (xb_BadText : PySem.W.subIn K (.ref C_BadText) (.type "BaseException") = some true)
    (xt_BadText : PySem.W.typeIn K (.ref C_BadText) = some (.type "type"))
    (xd_BadText : PySem.W.hasDictIn K C_BadText = true)
    (hC_BadPaper : PySem.W.nsIn K mainGlobals "BadPaper" = some (some (.ref C_BadPaper)))
    (kc_BadPaper : PySem.W.keepIn K (.ref C_BadPaper) = true)
    (xb_BadPaper : PySem.W.subIn K (.ref C_BadPaper) (.type "BaseException") = some true)
    (xt_BadPaper : PySem.W.typeIn K (.ref C_BadPaper) = some (.type "type"))
    (xd_BadPaper : PySem.W.hasDictIn K C_BadPaper = true)
    (hC_BadCall : PySem.W.nsIn K mainGlobals "BadCall" = some (some (.ref C_BadCall)))
    (kc_BadCall : PySem.W.keepIn K (.ref C_BadCall) = true)
    (xb_BadCall : PySem.W.subIn K (.ref C_BadCall) (.type "BaseException") = some true)
    (xt_BadCall : PySem.W.typeIn K (.ref C_BadCall) = some (.type "type"))
    (xd_BadCall : PySem.W.hasDictIn K C_BadCall = true)
    (hC_BadPlayer : PySem.W.nsIn K mainGlobals "BadPlayer" = some (some (.ref C_BadPlayer)))
    (kc_BadPlayer : PySem.W.keepIn K (.ref C_BadPlayer) = true)
    (xb_BadPlayer : PySem.W.subIn K (.ref C_BadPlayer) (.type "BaseException") = some true)
    (xt_BadPlayer : PySem.W.typeIn K (.ref C_BadPlayer) = some (.type "type"))
    (xd_BadPlayer : PySem.W.hasDictIn K C_BadPlayer = true)
    (hC_BadStep : PySem.W.nsIn K mainGlobals "BadStep" = some (some (.ref C_BadStep)))
    (kc_BadStep : PySem.W.keepIn K (.ref C_BadStep) = true)
    (xb_BadStep : PySem.W.subIn K (.ref C_BadStep) (.type "BaseException") = some true)
    (xt_BadStep : PySem.W.typeIn K (.ref C_BadStep) = some (.type "type"))
    (xd_BadStep : PySem.W.hasDictIn K C_BadStep = true)
    (hC_TooLarge : PySem.W.nsIn K mainGlobals "TooLarge" = some (some (.ref C_TooLarge)))
    (kc_TooLarge : PySem.W.keepIn K (.ref C_TooLarge) = true)
    (xb_TooLarge : PySem.W.subIn K (.ref C_TooLarge) (.type "BaseException") = some true)
    (xt_TooLarge : PySem.W.typeIn K (.ref C_TooLarge) = some (.type "type"))
    (xd_TooLarge : PySem.W.hasDictIn K C_TooLarge = true)
    (eg_BadBound : PySem.W.findIn K (.ref C_BadBound) "__getattribute__" = some (some (.builtin "BaseException.__getattribute__")))
    (ek_BadBound : PySem.W.findIn K (.ref C_BadBound) "__getattr__" = some none)
    (ea_BadBound : PySem.W.findIn K (.ref C_BadBound) "__class__" = some (some (.builtin "object.__class__")))
    (em_BadBound : PySem.W.mroIn K C_BadBound (.type "object") = some true)
    (zn_len : PySem.W.nsIn K mainGlobals "len" = some none)
    (zn_range : PySem.W.nsIn K mainGlobals "range" = some none)
    (zn_isinstance : PySem.W.nsIn K mainGlobals "isinstance" = some none)
    (zn_abs : PySem.W.nsIn K mainGlobals "abs" = some none)
    (zn_int : PySem.W.nsIn K mainGlobals "int" = some none)
    (zn_str : PySem.W.nsIn K mainGlobals "str" = some none)
    (zn_bool : PySem.W.nsIn K mainGlobals "bool" = some none)
    (zn_ValueError : PySem.W.nsIn K mainGlobals "ValueError" = some none)
    (hg_gcd : PySem.W.nsIn K mainGlobals "gcd" = some (some (.builtin "math.gcd")))
    (hg_CHUNK : PySem.W.nsIn K mainGlobals "CHUNK" = some (some (.int (10 ^ 64) tk_CHUNK)))
    (sub_bp : PySem.W.subIn K (.ref C_BadBound) (.ref C_PlayError) = some true)
    (ki_e : PySem.W.kitAny K (.ref C_BadBound) [.ref C_BadCall, .ref C_BadPaper, .ref C_BadPlayer, .ref C_BadStep, .ref C_BadText, .ref C_TooLarge] = some false)
    (ki_b : PySem.W.kitOne K (.ref C_BadBound) (.ref C_BadBound) = some true)
    (ki_v : PySem.W.kitOne K (.ref C_BadBound) (.type "ValueError") = some true) :
    ∃ fd : FuncData, (∀ (s : Shared) (v : Value), BindsTo s fd ⟨[v], []⟩ [("script", v)]) ∧ ∀ base : Heap, K.In base → base.Ns mainGlobals mg → FnOk l.prog w K mg base CX0 12 fa fd ["script"] (spLaw K) := by
  have e := hfa.symm.trans (PySem.W.mg_of X G h_law)
  cases e
  have F_decimals := fun_mk (st := s_decimals) l_decimals c_decimals k_decimals
  have b_decimals := F_decimals.binds (ps := ["number"]) fun _ _ _ _ _ _ us hl => match us, hl with | [_], _ => rfl
  have F_Ratio_init : FunD K "__init__" "Ratio.__init__" (defArgs s_Ratio_init) (defBody s_Ratio_init) (defScope s_Ratio_init) [.int 1] [] a_Ratio_init (PySem.W.fnOf "__init__" "Ratio.__init__" (defArgs s_Ratio_init) (defBody s_Ratio_init) (defScope s_Ratio_init) (.ref dT_Ratio_init) kV_Ratio_init dc_Ratio_init pm_Ratio_init an_Ratio_init cd_Ratio_init ct_Ratio_init) := ⟨⟨_, _, _, _, _, _, _, _, _, _, rfl, l_Ratio_init, c_Ratio_init, .inr ⟨List.cons_ne_nil _ _, _, _, _, _, rfl, dl_Ratio_init, rfl, (.cons ⟨_, rfl⟩ .nil)⟩, .inl rfl⟩, k_Ratio_init⟩
  obtain ⟨ds0_Ratio_init, dv0_Ratio_init, db0_Ratio_init⟩ := F_Ratio_init.binds1 (ps := ["self", "num", "den"]) 2 0 (List.cons_ne_nil _ _) rfl fun _ _ _ _ _ _ _ us its hl hi => match us, its, hl, hi with | [_, _], [_], _, _ => ⟨_, rfl, rfl⟩
  obtain ⟨ds1_Ratio_init, dv1_Ratio_init, db1_Ratio_init⟩ := F_Ratio_init.binds1 (ps := ["self", "num", "den"]) 3 1 (List.cons_ne_nil _ _) rfl fun _ _ _ _ _ _ _ us its hl hi => match us, its, hl, hi with | [_, _, _], [_], _, _ => ⟨_, rfl, rfl⟩
  have b_Ratio_init : L2.Binds K (PySem.W.fnOf "__init__" "Ratio.__init__" (defArgs s_Ratio_init) (defBody s_Ratio_init) (defScope s_Ratio_init) (.ref dT_Ratio_init) kV_Ratio_init dc_Ratio_init pm_Ratio_init an_Ratio_init cd_Ratio_init ct_Ratio_init) ["self", "num", "den"] [] := by cases dv1_Ratio_init; exact db1_Ratio_init
  have F_Ratio_add := fun_mk (st := s_Ratio_add) l_Ratio_add c_Ratio_add k_Ratio_add
  have b_Ratio_add := F_Ratio_add.binds (ps := ["self", "other"]) fun _ _ _ _ _ _ us hl => match us, hl with | [_, _], _ => rfl
  have F_Ratio_sub := fun_mk (st := s_Ratio_sub) l_Ratio_sub c_Ratio_sub k_Ratio_sub
  have b_Ratio_sub := F_Ratio_sub.binds (ps := ["self", "other"]) fun _ _ _ _ _ _ us hl => match us, hl with | [_, _], _ => rfl
  have F_Ratio_mul := fun_mk (st := s_Ratio_mul) l_Ratio_mul c_Ratio_mul k_Ratio_mul
  have b_Ratio_mul := F_Ratio_mul.binds (ps := ["self", "other"]) fun _ _ _ _ _ _ us hl => match us, hl with | [_, _], _ => rfl
  have F_Ratio_eq := fun_mk (st := s_Ratio_eq) l_Ratio_eq c_Ratio_eq k_Ratio_eq
  have b_Ratio_eq := F_Ratio_eq.binds (ps := ["self", "other"]) fun _ _ _ _ _ _ us hl => match us, hl with | [_, _], _ => rfl
  have F_Ratio_str := fun_mk (st := s_Ratio_str) l_Ratio_str c_Ratio_str k_Ratio_str
  have b_Ratio_str := F_Ratio_str.binds (ps := ["self"]) fun _ _ _ _ _ _ us hl => match us, hl with | [_], _ => rfl
  have F_Ratio_below := fun_mk (st := s_Ratio_below) l_Ratio_below c_Ratio_below k_Ratio_below
  have b_Ratio_below := F_Ratio_below.binds (ps := ["self", "other"]) fun _ _ _ _ _ _ us hl => match us, hl with | [_, _], _ => rfl
  have F_law_cell := fun_mk (st := s_law_cell) l_law_cell c_law_cell k_law_cell
  have b_law_cell := F_law_cell.binds (ps := ["script", "k"]) fun _ _ _ _ _ _ us hl => match us, hl with | [_, _], _ => rfl
  have F_law_is_integer := fun_mk (st := s_law_is_integer) l_law_is_integer c_law_is_integer k_law_is_integer
  have b_law_is_integer := F_law_is_integer.binds (ps := ["actual"]) fun _ _ _ _ _ _ us hl => match us, hl with | [_], _ => rfl
  have F_law_less := fun_mk (st := s_law_less) l_law_less c_law_less k_law_less
  have b_law_less := F_law_less.binds (ps := ["num", "den"]) fun _ _ _ _ _ _ us hl => match us, hl with | [_, _], _ => rfl
  have F_law_is := fun_mk (st := s_law_is) l_law_is c_law_is k_law_is
  have b_law_is := F_law_is.binds (ps := ["actual", "num", "den"]) fun _ _ _ _ _ _ us hl => match us, hl with | [_, _, _], _ => rfl
  have F_law_refused := fun_mk (st := s_law_refused) l_law_refused c_law_refused k_law_refused
  have b_law_refused := F_law_refused.binds (ps := ["num", "den"]) fun _ _ _ _ _ _ us hl => match us, hl with | [_, _], _ => rfl
  have F_law := fun_mk (st := s_law) l_law c_law k_law
  have b_law := F_law.binds (ps := ["script"]) fun _ _ _ _ _ _ us hl => match us, hl with | [_], _ => rfl
  refine ⟨PySem.W.fnOf "law" "law" (defArgs s_law) (defBody s_law) (defScope s_law) .none kV_law dc_law pm_law an_law cd_law ct_law, fun s v => .of_eq rfl, fun base _ _ => ?_⟩
  exact ok_law (mg := mg) (K := K) {
    a_decimals := _
    fd_decimals := _
    a_Ratio_init := _
    fd_Ratio_init := _
    a_Ratio_add := _
    fd_Ratio_add := _
    a_Ratio_sub := _
    fd_Ratio_sub := _
    a_Ratio_mul := _
    fd_Ratio_mul := _
    a_Ratio_eq := _
    fd_Ratio_eq := _
    a_Ratio_str := _
    fd_Ratio_str := _
    a_Ratio_below := _
    fd_Ratio_below := _
    a_law_cell := _
    fd_law_cell := _
    a_law_is_integer := _
    fd_law_is_integer := _
    a_law_less := _
    fd_law_less := _
    a_law_is := _
    fd_law_is := _
    a_law_refused := _
    fd_law_refused := _
    a_law := _
    fd_law := _
    C_Ratio := _
    C_BadBound := _
    C_PlayError := _
    C_BadText := _
    C_BadPaper := _
    C_BadCall := _
    C_BadPlayer := _
    C_BadStep := _
    C_TooLarge := _
    o_n := o_n
    o_t := o_t
    g_Ratio := PySem.W.mg_of X G hC_Ratio
    cl_Ratio := ⟨pg_Ratio, hd_Ratio, po_Ratio, sa_Ratio⟩
    sf_Ratio := sf_Ratio
    na_Ratio_num := na_Ratio_num
    na_Ratio_den := na_Ratio_den
    ia_Ratio := ia_Ratio
    im_Ratio := im_Ratio
    ik_Ratio := ik_Ratio
    F_decimals := F_decimals
    b_decimals := b_decimals
    k_decimals := k_decimals
    g_decimals := PySem.W.mg_of X G h_decimals
    F_Ratio_init := F_Ratio_init
    ds0_Ratio_init := ds0_Ratio_init
    dv0_Ratio_init := dv0_Ratio_init
    db0_Ratio_init := db0_Ratio_init
    b_Ratio_init := b_Ratio_init
    k_Ratio_init := k_Ratio_init
    m_Ratio_init := ⟨h_Ratio_init, i_Ratio_init, k_Ratio_init⟩
    F_Ratio_add := F_Ratio_add
    b_Ratio_add := b_Ratio_add
    k_Ratio_add := k_Ratio_add
    m_Ratio_add := ⟨h_Ratio_add, i_Ratio_add, k_Ratio_add⟩
    F_Ratio_sub := F_Ratio_sub
    b_Ratio_sub := b_Ratio_sub
    k_Ratio_sub := k_Ratio_sub
    m_Ratio_sub := ⟨h_Ratio_sub, i_Ratio_sub, k_Ratio_sub⟩
    F_Ratio_mul := F_Ratio_mul
    b_Ratio_mul := b_Ratio_mul
    k_Ratio_mul := k_Ratio_mul
    m_Ratio_mul := ⟨h_Ratio_mul, i_Ratio_mul, k_Ratio_mul⟩
    F_Ratio_eq := F_Ratio_eq
    b_Ratio_eq := b_Ratio_eq
    k_Ratio_eq := k_Ratio_eq
    m_Ratio_eq := ⟨h_Ratio_eq, i_Ratio_eq, k_Ratio_eq⟩
    F_Ratio_str := F_Ratio_str
    b_Ratio_str := b_Ratio_str
    k_Ratio_str := k_Ratio_str
    m_Ratio_str := ⟨h_Ratio_str, i_Ratio_str, k_Ratio_str⟩
    F_Ratio_below := F_Ratio_below
    b_Ratio_below := b_Ratio_below
    k_Ratio_below := k_Ratio_below
    m_Ratio_below := ⟨h_Ratio_below, i_Ratio_below, k_Ratio_below⟩
    F_law_cell := F_law_cell
    b_law_cell := b_law_cell
    k_law_cell := k_law_cell
    g_law_cell := PySem.W.mg_of X G h_law_cell
    F_law_is_integer := F_law_is_integer
    b_law_is_integer := b_law_is_integer
    k_law_is_integer := k_law_is_integer
    g_law_is_integer := PySem.W.mg_of X G h_law_is_integer
    F_law_less := F_law_less
    b_law_less := b_law_less
    k_law_less := k_law_less
    g_law_less := PySem.W.mg_of X G h_law_less
    F_law_is := F_law_is
    b_law_is := b_law_is
    k_law_is := k_law_is
    g_law_is := PySem.W.mg_of X G h_law_is
    F_law_refused := F_law_refused
    b_law_refused := b_law_refused
    k_law_refused := k_law_refused
    g_law_refused := PySem.W.mg_of X G h_law_refused
    F_law := F_law
    b_law := b_law
    k_law := k_law
    g_law := PySem.W.mg_of X G h_law
    mk_Ratio := ⟨mk_Ratio, h_Ratio_init, i_Ratio_init, kc_Ratio⟩
    g_BadBound := PySem.W.mg_of X G hC_BadBound
    kc_BadBound := kc_BadBound
    xb_BadBound := xb_BadBound
    xt_BadBound := xt_BadBound
    xd_BadBound := xd_BadBound
    x_BadBound := x_BadBound
    g_PlayError := PySem.W.mg_of X G hC_PlayError
    kc_PlayError := kc_PlayError
    xb_PlayError := xb_PlayError
    xt_PlayError := xt_PlayError
    xd_PlayError := xd_PlayError
    g_BadText := PySem.W.mg_of X G hC_BadText
    kc_BadText := kc_BadText
    xb_BadText := xb_BadText
    xt_BadText := xt_BadText
    xd_BadText := xd_BadText
    g_BadPaper := PySem.W.mg_of X G hC_BadPaper
    kc_BadPaper := kc_BadPaper
    xb_BadPaper := xb_BadPaper
    xt_BadPaper := xt_BadPaper
    xd_BadPaper := xd_BadPaper
    g_BadCall := PySem.W.mg_of X G hC_BadCall
    kc_BadCall := kc_BadCall
    xb_BadCall := xb_BadCall
    xt_BadCall := xt_BadCall
    xd_BadCall := xd_BadCall
    g_BadPlayer := PySem.W.mg_of X G hC_BadPlayer
    kc_BadPlayer := kc_BadPlayer
    xb_BadPlayer := xb_BadPlayer
    xt_BadPlayer := xt_BadPlayer
    xd_BadPlayer := xd_BadPlayer
    g_BadStep := PySem.W.mg_of X G hC_BadStep
    kc_BadStep := kc_BadStep
    xb_BadStep := xb_BadStep
    xt_BadStep := xt_BadStep
    xd_BadStep := xd_BadStep
    g_TooLarge := PySem.W.mg_of X G hC_TooLarge
    kc_TooLarge := kc_TooLarge
    xb_TooLarge := xb_TooLarge
    xt_TooLarge := xt_TooLarge
    xd_TooLarge := xd_TooLarge
    ec_BadBound := ⟨eg_BadBound, ek_BadBound, xb_BadBound, xd_BadBound, ea_BadBound, o_n, o_t, em_BadBound⟩
    z_len := PySem.W.mg_none_of X G zn_len
    z_range := PySem.W.mg_none_of X G zn_range
    z_isinstance := PySem.W.mg_none_of X G zn_isinstance
    z_abs := PySem.W.mg_none_of X G zn_abs
    z_int := PySem.W.mg_none_of X G zn_int
    z_str := PySem.W.mg_none_of X G zn_str
    z_bool := PySem.W.mg_none_of X G zn_bool
    z_ValueError := PySem.W.mg_none_of X G zn_ValueError
    g_gcd := PySem.W.mg_of X G hg_gcd
    g_CHUNK := ⟨_, PySem.W.mg_of X G hg_CHUNK⟩
    sub_bp := sub_bp
    ki_e := ki_e
    ki_b := ki_b
    ki_v := ki_v }
theorem walk {l : PySem.W.OpenLaw} {q : Program} {loose : List Str} {XP : (Str → Option Value) → Heap → Prop} {YP : World → Heap → Prop} {d : DefRec} {K : Params → PySem.W.Frag} (hn : l.most = some 63) (hdf : d.params.defaults = [])
    (hY : ∀ (w : World) (h : Heap), YP w h → (K w.params).In h)
    (F : ∀ (w : World) (mg : Str → Option Value) (fa : Addr) (h : Heap), (K w.params).In h → h.Ns mainGlobals mg → mg d.name = some (.ref fa) →
      ∃ fd : FuncData, (∀ (s : Shared) (u : Value), BindsTo s fd ⟨[u], []⟩ [("script", u)]) ∧ ∀ base : Heap, (K w.params).In base → base.Ns mainGlobals mg → FnOk l.prog w (K w.params) mg base CX0 12 fa fd ["script"] (spLaw (K w.params))) :
    PySem.W.WalkO q loose XP YP l.row.toRowW d [] (fun f vs => PySem.call f vs) :=
  L2.walk_of (n := 63) (k := 12) (x := "script") (CX := fun _ => CX0) (sp := fun w => spLaw (K w.params)) hn (by decide) hdf ⟨rfl, by decide, by decide⟩ hY F (fun _ _ a ns hl _ hS => ⟨a, ns, rfl, hS, hl, fun _ => rfl⟩) fun _ _ _ _ _ z => z
end Toy
open PySem PySem.W PyProof.Rows
set_option maxRecDepth 100000 in
set_option maxHeartbeats 0 in
theorem PySem.Challenge.cw_tellsnone_k00_ratios_holds : PySem.Challenge.rw_tellsnone_k00_ratios.Holds := by
  w_on; o_law; k_head; (case hw => w_witness2)
  k_fill
  refine Toy.walk (l := PySem.Challenge.rw_tellsnone_k00_ratios) rfl rfl (fun w h Y => PySem.W.kIn_of Y) ?F
  case F =>
    intro w mg fa h KX G hmg
    refine' Toy.all_mk KX G hmg ?o_n ?o_t ?hC_Ratio ?pg_Ratio ?hd_Ratio ?po_Ratio ?sa_Ratio ?mk_Ratio ?kc_Ratio ?sf_Ratio ?na_Ratio_num ?na_Ratio_den ?ia_Ratio ?im_Ratio ?ik_Ratio ?h_decimals ?l_decimals ?c_decimals ?k_decimals ?h_Ratio_init ?i_Ratio_init ?l_Ratio_init ?dl_Ratio_init ?c_Ratio_init ?k_Ratio_init ?h_Ratio_add ?i_Ratio_add ?l_Ratio_add ?c_Ratio_add ?k_Ratio_add ?h_Ratio_sub ?i_Ratio_sub ?l_Ratio_sub ?c_Ratio_sub ?k_Ratio_sub ?h_Ratio_mul ?i_Ratio_mul ?l_Ratio_mul ?c_Ratio_mul ?k_Ratio_mul ?h_Ratio_eq ?i_Ratio_eq ?l_Ratio_eq ?c_Ratio_eq ?k_Ratio_eq ?h_Ratio_str ?i_Ratio_str ?l_Ratio_str ?c_Ratio_str ?k_Ratio_str ?h_Ratio_below ?i_Ratio_below ?l_Ratio_below ?c_Ratio_below ?k_Ratio_below ?h_law_cell ?l_law_cell ?c_law_cell ?k_law_cell ?h_law_is_integer ?l_law_is_integer ?c_law_is_integer ?k_law_is_integer ?h_law_less ?l_law_less ?c_law_less ?k_law_less ?h_law_is ?l_law_is ?c_law_is ?k_law_is ?h_law_refused ?l_law_refused ?c_law_refused ?k_law_refused ?h_law ?l_law ?c_law ?k_law ?hC_BadBound ?kc_BadBound ?xb_BadBound ?xt_BadBound ?xd_BadBound ?x_BadBound ?hC_PlayError ?kc_PlayError ?xb_PlayError ?xt_PlayError ?xd_PlayError ?hC_BadText ?kc_BadText ?xb_BadText ?xt_BadText ?xd_BadText ?hC_BadPaper ?kc_BadPaper ?xb_BadPaper ?xt_BadPaper ?xd_BadPaper ?hC_BadCall ?kc_BadCall ?xb_BadCall ?xt_BadCall ?xd_BadCall ?hC_BadPlayer ?kc_BadPlayer ?xb_BadPlayer ?xt_BadPlayer ?xd_BadPlayer ?hC_BadStep ?kc_BadStep ?xb_BadStep ?xt_BadStep ?xd_BadStep ?hC_TooLarge ?kc_TooLarge ?xb_TooLarge ?xt_TooLarge ?xd_TooLarge ?eg_BadBound ?ek_BadBound ?ea_BadBound ?em_BadBound ?zn_len ?zn_range ?zn_isinstance ?zn_abs ?zn_int ?zn_str ?zn_bool ?zn_ValueError ?hg_gcd ?hg_CHUNK ?sub_bp ?ki_e ?ki_b ?ki_v
    (case o_n => first | k_is | k_exc | kit_is)
    (case o_t => first | k_is | k_exc | kit_is)
    (case hC_Ratio => first | k_is | k_exc | kit_is)
    (case pg_Ratio => first | k_is | k_exc | kit_is)
    (case hd_Ratio => first | k_is | k_exc | kit_is)
    (case po_Ratio => first | k_is | k_exc | kit_is)
    (case sa_Ratio => first | k_is | k_exc | kit_is)
    (case mk_Ratio => first | k_is | k_exc | kit_is)
    (case kc_Ratio => first | k_is | k_exc | kit_is)
    (case sf_Ratio => first | k_is | k_exc | kit_is)
    (case na_Ratio_num => first | k_is | k_exc | kit_is)
    (case na_Ratio_den => first | k_is | k_exc | kit_is)
    (case ia_Ratio => first | k_is | k_exc | kit_is)
    (case im_Ratio => first | k_is | k_exc | kit_is)
    (case ik_Ratio => first | k_is | k_exc | kit_is)
    (case h_decimals => first | k_is | k_exc | kit_is)
    (case l_decimals => first | k_is | k_exc | kit_is)
    (case c_decimals => first | k_is | k_exc | kit_is)
    (case k_decimals => first | k_is | k_exc | kit_is)
    (case h_Ratio_init => first | k_is | k_exc | kit_is)
    (case i_Ratio_init => first | k_is | k_exc | kit_is)
    (case l_Ratio_init => first | k_is | k_exc | kit_is)
    (case dl_Ratio_init => first | k_is | k_exc | kit_is)
    (case c_Ratio_init => first | k_is | k_exc | kit_is)
    (case k_Ratio_init => first | k_is | k_exc | kit_is)
    (case h_Ratio_add => first | k_is | k_exc | kit_is)
    (case i_Ratio_add => first | k_is | k_exc | kit_is)
    (case l_Ratio_add => first | k_is | k_exc | kit_is)
    (case c_Ratio_add => first | k_is | k_exc | kit_is)
    (case k_Ratio_add => first | k_is | k_exc | kit_is)
    (case h_Ratio_sub => first | k_is | k_exc | kit_is)
    (case i_Ratio_sub => first | k_is | k_exc | kit_is)
    (case l_Ratio_sub => first | k_is | k_exc | kit_is)
    (case c_Ratio_sub => first | k_is | k_exc | kit_is)
    (case k_Ratio_sub => first | k_is | k_exc | kit_is)
    (case h_Ratio_mul => first | k_is | k_exc | kit_is)
    (case i_Ratio_mul => first | k_is | k_exc | kit_is)
    (case l_Ratio_mul => first | k_is | k_exc | kit_is)
    (case c_Ratio_mul => first | k_is | k_exc | kit_is)
    (case k_Ratio_mul => first | k_is | k_exc | kit_is)
    (case h_Ratio_eq => first | k_is | k_exc | kit_is)
    (case i_Ratio_eq => first | k_is | k_exc | kit_is)
    (case l_Ratio_eq => first | k_is | k_exc | kit_is)
    (case c_Ratio_eq => first | k_is | k_exc | kit_is)
    (case k_Ratio_eq => first | k_is | k_exc | kit_is)
    (case h_Ratio_str => first | k_is | k_exc | kit_is)
    (case i_Ratio_str => first | k_is | k_exc | kit_is)
    (case l_Ratio_str => first | k_is | k_exc | kit_is)
    (case c_Ratio_str => first | k_is | k_exc | kit_is)
    (case k_Ratio_str => first | k_is | k_exc | kit_is)
    (case h_Ratio_below => first | k_is | k_exc | kit_is)
    (case i_Ratio_below => first | k_is | k_exc | kit_is)
    (case l_Ratio_below => first | k_is | k_exc | kit_is)
    (case c_Ratio_below => first | k_is | k_exc | kit_is)
    (case k_Ratio_below => first | k_is | k_exc | kit_is)
    (case h_law_cell => first | k_is | k_exc | kit_is)
    (case l_law_cell => first | k_is | k_exc | kit_is)
    (case c_law_cell => first | k_is | k_exc | kit_is)
    (case k_law_cell => first | k_is | k_exc | kit_is)
    (case h_law_is_integer => first | k_is | k_exc | kit_is)
    (case l_law_is_integer => first | k_is | k_exc | kit_is)
    (case c_law_is_integer => first | k_is | k_exc | kit_is)
    (case k_law_is_integer => first | k_is | k_exc | kit_is)
    (case h_law_less => first | k_is | k_exc | kit_is)
    (case l_law_less => first | k_is | k_exc | kit_is)
    (case c_law_less => first | k_is | k_exc | kit_is)
    (case k_law_less => first | k_is | k_exc | kit_is)
    (case h_law_is => first | k_is | k_exc | kit_is)
    (case l_law_is => first | k_is | k_exc | kit_is)
    (case c_law_is => first | k_is | k_exc | kit_is)
    (case k_law_is => first | k_is | k_exc | kit_is)
    (case h_law_refused => first | k_is | k_exc | kit_is)
    (case l_law_refused => first | k_is | k_exc | kit_is)
    (case c_law_refused => first | k_is | k_exc | kit_is)
    (case k_law_refused => first | k_is | k_exc | kit_is)
    (case h_law => first | k_is | k_exc | kit_is)
    (case l_law => first | k_is | k_exc | kit_is)
    (case c_law => first | k_is | k_exc | kit_is)
    (case k_law => first | k_is | k_exc | kit_is)
    (case hC_BadBound => first | k_is | k_exc | kit_is)
    (case kc_BadBound => first | k_is | k_exc | kit_is)
    (case xb_BadBound => first | k_is | k_exc | kit_is)
    (case xt_BadBound => first | k_is | k_exc | kit_is)
    (case xd_BadBound => first | k_is | k_exc | kit_is)
    (case x_BadBound => first | k_is | k_exc | kit_is)
    (case hC_PlayError => first | k_is | k_exc | kit_is)
    (case kc_PlayError => first | k_is | k_exc | kit_is)
    (case xb_PlayError => first | k_is | k_exc | kit_is)
    (case xt_PlayError => first | k_is | k_exc | kit_is)
    (case xd_PlayError => first | k_is | k_exc | kit_is)
    (case hC_BadText => first | k_is | k_exc | kit_is)
    (case kc_BadText => first | k_is | k_exc | kit_is)
    (case xb_BadText => first | k_is | k_exc | kit_is)
    (case xt_BadText => first | k_is | k_exc | kit_is)
    (case xd_BadText => first | k_is | k_exc | kit_is)
    (case hC_BadPaper => first | k_is | k_exc | kit_is)
    (case kc_BadPaper => first | k_is | k_exc | kit_is)
    (case xb_BadPaper => first | k_is | k_exc | kit_is)
    (case xt_BadPaper => first | k_is | k_exc | kit_is)
    (case xd_BadPaper => first | k_is | k_exc | kit_is)
    (case hC_BadCall => first | k_is | k_exc | kit_is)
    (case kc_BadCall => first | k_is | k_exc | kit_is)
    (case xb_BadCall => first | k_is | k_exc | kit_is)
    (case xt_BadCall => first | k_is | k_exc | kit_is)
    (case xd_BadCall => first | k_is | k_exc | kit_is)
    (case hC_BadPlayer => first | k_is | k_exc | kit_is)
    (case kc_BadPlayer => first | k_is | k_exc | kit_is)
    (case xb_BadPlayer => first | k_is | k_exc | kit_is)
    (case xt_BadPlayer => first | k_is | k_exc | kit_is)
    (case xd_BadPlayer => first | k_is | k_exc | kit_is)
    (case hC_BadStep => first | k_is | k_exc | kit_is)
    (case kc_BadStep => first | k_is | k_exc | kit_is)
    (case xb_BadStep => first | k_is | k_exc | kit_is)
    (case xt_BadStep => first | k_is | k_exc | kit_is)
    (case xd_BadStep => first | k_is | k_exc | kit_is)
    (case hC_TooLarge => first | k_is | k_exc | kit_is)
    (case kc_TooLarge => first | k_is | k_exc | kit_is)
    (case xb_TooLarge => first | k_is | k_exc | kit_is)
    (case xt_TooLarge => first | k_is | k_exc | kit_is)
    (case xd_TooLarge => first | k_is | k_exc | kit_is)
    (case eg_BadBound => first | k_is | k_exc | kit_is)
    (case ek_BadBound => first | k_is | k_exc | kit_is)
    (case ea_BadBound => first | k_is | k_exc | kit_is)
    (case em_BadBound => first | k_is | k_exc | kit_is)
    (case zn_len => first | k_is | k_exc | kit_is)
    (case zn_range => first | k_is | k_exc | kit_is)
    (case zn_isinstance => first | k_is | k_exc | kit_is)
    (case zn_abs => first | k_is | k_exc | kit_is)
    (case zn_int => first | k_is | k_exc | kit_is)
    (case zn_str => first | k_is | k_exc | kit_is)
    (case zn_bool => first | k_is | k_exc | kit_is)
    (case zn_ValueError => first | k_is | k_exc | kit_is)
    (case hg_gcd => first | k_is | k_exc | kit_is)
    (case hg_CHUNK => first | k_is | k_exc | kit_is)
    (case sub_bp => first | k_is | k_exc | kit_is)
    (case ki_e => first | k_is | k_exc | kit_is)
    (case ki_b => first | k_is | k_exc | kit_is)
    (case ki_v => first | k_is | k_exc | kit_is)
#print axioms PySem.Challenge.cw_tellsnone_k00_ratios_holds
