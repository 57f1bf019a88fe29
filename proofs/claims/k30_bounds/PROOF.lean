import PyProof.Rows.All
import Wide.All
import OpenK.AllK
import Wide.FinOn
import HandS.ForExc
import HandS.OwnEq
import HandS.IsInst
import HandS.ExcIs
import HandS.ExcOwn
import HandS.Wide
import HandS.Gcd
import HandS.FStr
import HandS.Defaults
import HandS.SlotsOwn
import HandS.Sort
import HandS.TupAny
import HandS.ForMost
import PyProof.FitsInt
import PySem.Challenge.RW_tellsnone_k30_bounds
set_option Elab.async false
set_option linter.all false
set_option maxRecDepth 100000
set_option maxHeartbeats 2000000
/-! Rules of my own over the hand layer: operators, ==, str of own instances; a call that makes an instance within a try; isinstance of a held error with several classes. -/
namespace Mine
open PySem PySem.Spec PyProof.Rows L2
section
variable {X : Cx} {CX : CXT} {C f : Addr} {fd : FuncData} {ps : List Str} {sp : Sp} {E : XK} {n : Nat}

/-- a binary operator of two instances of one class -/
def rOwn (C : Addr) (sp : Sp) (E : XK) : R2 := fun x y H Q => ∃ a b dx dy fs gs, x = .ref a ∧ y = .ref b ∧ H a = some (.ins C dx fs) ∧ H b = some (.ins C dy gs) ∧ sp [.ref a, .ref b] H Q E
theorem op_own {op : Operator} (F : FnOk X.prog X.w X.K X.mg X.base CX n f fd ps sp) (hr : Room n X.A) (hb : Binds X.K fd ps []) (hx : Passes CX X E)
    (hc : PySem.W.selfFirst X.K C = true) (hs : PySem.W.findIn X.K (.ref C) (PySem.dunder op.info.2) = some (some (.ref f))) (hf : PySem.W.isFn X.K (.ref f) = true) : OpR X (binaryOp op) (rOwn C sp E) := by
  intro pins s σ H x y v u Q I rx ry h
  obtain ⟨a, b, dx, dy, fs, gs, rfl, rfl, ha, hb', q⟩ := h
  cases rx
  cases ry
  obtain ⟨mA, J, _⟩ := ins_get I.hok ha
  obtain ⟨mB, J', _⟩ := ins_get I.hok hb'
  obtain ⟨od, J, _⟩ := J.look
  obtain ⟨od', J', _⟩ := J'.look
  obtain ⟨m, hF⟩ := I.fr
  refine PySem.W.binop_K hF I.ok.mod.kin J J'.type hc hs hf ?_
  have r2 : Vals [V.ref a, V.ref b] [Value.ref a, Value.ref b] := .cons rfl (.cons rfl .nil)
  refine wpAny_mono (run_fn (dvs := []) (ds := []) F hr hb .nil hx I r2 (by simpa using q)) (fun v s' hv => ?_) fun _ _ z => z
  obtain ⟨z, H', I', rz, q'⟩ := hv
  exact SlX.cmpback rz ⟨z, H', I', rz, q'⟩

/-- == of two instances of one class with an own __eq__ -/
theorem op_ownEq (F : FnOk X.prog X.w X.K X.mg X.base CX n f fd ps sp) (hr : Room n X.A) (hb : Binds X.K fd ps []) (hx : Passes CX X E)
    (hs : PySem.W.findIn X.K (.ref C) "__eq__" = some (some (.ref f))) (hf : PySem.W.isFn X.K (.ref f) = true) : OpR X (compareOp .Eq) (rOwn C sp E) := by
  intro pins s σ H x y v u Q I rx ry h
  obtain ⟨a, b, dx, dy, fs, gs, rfl, rfl, ha, hb', q⟩ := h
  cases rx
  cases ry
  obtain ⟨mA, J, _⟩ := ins_get I.hok ha
  obtain ⟨mB, J', _⟩ := ins_get I.hok hb'
  obtain ⟨od, J, _⟩ := J.look
  obtain ⟨od', J', _⟩ := J'.look
  obtain ⟨m, hF⟩ := I.fr
  show wpAny (model X.prog X.w) X.A (richCompare .Eq _ _) (EP X pins σ Q) X.xe s
  refine PySem.W.cmp_K (op := .Eq) (tb := .ref C) hr.units0 hF I.ok.mod.kin J J'.type (by simp [PySem.W.notFirst]) hs hf ?_
  have r2 : Vals [V.ref a, V.ref b] [Value.ref a, Value.ref b] := .cons rfl (.cons rfl .nil)
  refine wpAny_mono (run_fn (dvs := []) (ds := []) F hr hb .nil hx I r2 (by simpa using q)) (fun v s' hv => ?_) fun _ _ z => z
  obtain ⟨z, H', I', rz, q'⟩ := hv
  exact SlX.cmpback rz ⟨z, H', I', rz, q'⟩

theorem strback {P : Value → Shared → Prop} {z : Str} {v : Value} {s' : Shared} (r : RelV (.str z) v) (h : P v s') : PySem.W.StrBack P v s' := by
  obtain ⟨t, rfl⟩ := r
  exact h
/-- str(x) of an instance with an own __str__ -/
def rStrOwn (C : Addr) (sp : Sp) (E : XK) : List V → Hp → VK → Prop := fun xs H Q => ∃ a dx fs, xs = [.ref a] ∧ H a = some (.ins C dx fs) ∧ sp [.ref a] H (fun v H' => ∃ z, v = .str z ∧ Q (.str z) H') E
theorem call_strOwn (F : FnOk X.prog X.w X.K X.mg X.base CX n f fd ps sp) (hr : Room (n + 2) X.A) (hb : Binds X.K fd ps []) (hx : Passes CX X E)
    (hs : PySem.W.findIn X.K (.ref C) "__str__" = some (some (.ref f))) (hf : PySem.W.isFn X.K (.ref f) = true) : CallR X (.type "str") (rStrOwn C sp E) := by
  intro pins s σ H xs us Q I r h
  obtain ⟨a, dx, fs, rfl, ha, q⟩ := h
  obtain ⟨u, rfl, ru⟩ := vals1 r
  cases ru
  obtain ⟨mA, J, _⟩ := ins_get I.hok ha
  obtain ⟨od, J, _⟩ := J.look
  have hr2 : Room n X.A.in1.in1 := hr.in1.in1
  refine PySem.W.kso_call hr2.units0 I.kIn J hs hf ?_
  have e0 : Env0 X.prog X.w X.K X.mg X.base X.A.in1.in1 X.stack s H := by
    have e := I.env0
    exact ⟨e.frames, e.mod, e.bs, e.bsz, e.funs, e.frf, e.hok, e.bare⟩
  have hl := F.len _ _ _ _ q
  have r2 : Vals [V.ref a] [Value.ref a] := .cons rfl .nil
  refine wpAny_call (codeAny_mono (F.run _ X.stack s H ⟨[.ref a], []⟩ [.ref a] [.ref a] _ E hr2 e0 (by
    have := hb s [.ref a] I.kIn (by simpa using hl)
    simpa using this) r2 q) fun r s' hq => ?_)
  cases r with
  | error e => exact hx pins σ H s e s' I hq
  | ok fl =>
    cases fl with
    | ret w =>
      obtain ⟨z, H', I', rz, z', ez, q'⟩ := I.after hq
      subst ez
      exact strback rz ⟨.str z', H', I', rz, q'⟩
    | next => exact False.elim hq
    | brk => exact False.elim hq
    | cont => exact False.elim hq
end

/-! ### C(e, ..) that may raise, within a try body -/
section
variable {X : Cx} {CX : CXT} {k : Nat} {f C : Addr} {fd : FuncData} {ps : List Str} {sp : Sp} {E : L2.St → XK} {x : Str} {p pos : Pos} {e : Expr} {es : List Expr} {t : TA}
theorem run_makeS {pins : List (Addr × Obj)} {σ : L2.St} {H : Hp} {s : Shared} {Q : VK} {us : List Value} {vs : List V} (M : Mk X.K C f) (F : FnOk X.prog X.w X.K X.mg X.base CX k f fd ps sp) (hr : Room (k + 1) X.A) (hb : Binds X.K fd ps [])
    (hx : PassesAt CX X σ (E σ)) (I : Inv X pins σ H s) (r : Vals vs us)
    (h : ∀ x dx, H x = none → H dx = none → dx ≠ x → sp (.ref x :: vs) (upd (upd H dx (.own x)) x (.ins C dx [])) (fun v H2 => v = .non ∧ Q (.ref x) H2) (E σ)) :
    wpAny (model X.prog X.w) X.A (call (.ref C) us) (EP X pins σ Q) X.xe s := by
  have hq := h (s.heap.objs.size + 1) s.heap.objs.size (I.hok.fresh (Nat.le_succ _)) (I.hok.fresh (Nat.le_refl _)) (Nat.ne_of_lt (Nat.lt_succ_self _))
  have I2 := Inv.made (C := C) I
  have r2 : Vals (V.ref (s.heap.objs.size + 1) :: vs) (Value.ref (s.heap.objs.size + 1) :: us) := .cons rfl r
  have hl : (Value.ref (s.heap.objs.size + 1) :: us ++ []).length = ps.length := by
    have e := r2.length
    rw [F.len _ _ _ _ hq] at e
    rw [List.append_nil]
    exact e.symm
  refine wpAny_call ((make_map (f := f) I.kIn M.makes M.init (beq_iff_eq.mp M.fn) (codeAny_mono (F.run _ X.stack _ _ ⟨Value.ref (s.heap.objs.size + 1) :: us, []⟩ (Value.ref (s.heap.objs.size + 1) :: us) _ _ (E σ) (hr.make C us [])
    (I2.env0.make C us []) (by have z := hb _ (Value.ref (s.heap.objs.size + 1) :: us) I2.kIn hl; rw [List.append_nil] at z; exact z) r2 hq) fun r s' hq' => ?_)))
  cases r with
  | error e => exact hx pins _ _ e s' I2 hq'
  | ok fl =>
    cases fl with
    | ret u =>
      obtain ⟨v, H', I3, rv, ev, q3⟩ := I2.after hq'
      subst ev
      exact ⟨rv, ⟨V.ref (s.heap.objs.size + 1), H', I3, rfl, q3⟩⟩
    | next => exact False.elim hq'
    | brk => exact False.elim hq'
    | cont => exact False.elim hq'
end
/-- C(e, ..) within a try body -/
def tMakeS (C : Addr) (sp : Sp) (E : L2.St → XK) (t : TA) : TE := fun σ H Q => t σ H fun vs H1 => ∀ x dx, H1 x = none → H1 dx = none → dx ≠ x →
  sp (.ref x :: vs) (upd (upd H1 dx (.own x)) x (.ins C dx [])) (fun v H2 => v = .non ∧ Q (.ref x) H2) (E σ)
section
variable {X : Cx} {CX : CXT} {k : Nat} {f C : Addr} {fd : FuncData} {ps : List Str} {sp : Sp} {E : L2.St → XK} {x : Str} {p pos : Pos} {e : Expr} {es : List Expr} {t : TA}
theorem pe_makeS (M : Mk X.K C f) (F : FnOk X.prog X.w X.K X.mg X.base CX k f fd ps sp) (hr : Room (k + 1) X.A) (hg : Gl X x) (hm : X.mg x = some (.ref C)) (hb : L2.Binds X.K fd ps []) (hx : ∀ σ, PassesAt CX X σ (E σ))
    (ha : PA X (e :: es) t) (hdb : (x == ("__debug__" : Str)) = false := by decide) (he : starEach (e :: es) X.env = (false, eval e X.env) :: starEach es X.env := by rfl) (hpl : (backTo pos (starEach es X.env)).any (·.1) = false := by rfl) :
    PE X (.Call (.Name x p) (e :: es) [] pos) (tMakeS C sp E t) := by
  refine ⟨fun pins s σ H Q I h => ?_⟩
  refine wpAny_Call_Name_kw (ld_glob I hg hm ?_ hdb)
  refine PySem.W.callWith_K (h₀ := X.base) I.ok.mod.kin M.kp (thn (ha.run pos pins s σ H _ I h) fun us s1 ⟨vs, H1, I1, r, q⟩ => ⟨I1.kIn, ?_⟩) he hpl
  exact run_makeS M F hr hb (hx σ) I1 r q
end

/-! ### isinstance of the error that a suite holds -/
def rIsE1 (K : PySem.W.Frag) (D a : Addr) (cls : Value) (d : Option Addr) : List V → Hp → VK → Prop := fun xs H Q => ∃ (c : V) (cv : Value) (b : Bool), xs = [.ref a, c] ∧ cls = .ref D ∧ d = none ∧ (∀ u, RelV c u → u = cv) ∧ PySem.W.kitOne K (.ref D) cv = some b ∧ Q (.bl b) H
def rIsET (K : PySem.W.Frag) (D a : Addr) (cls : Value) (d : Option Addr) : List V → Hp → VK → Prop := fun xs H Q => ∃ (tp : Addr) (cs : List V) (us : List Value) (b : Bool), xs = [.ref a, .ref tp] ∧ cls = .ref D ∧ d = none ∧ H tp = some (.tup cs) ∧ Paired ClsV cs us ∧ PySem.W.kitAny K (.ref D) us = some b ∧ Q (.bl b) H
section
variable {X : Cx} {a D : Addr} {oe : Obj} {pn : List (Addr × Obj)} {cls : Value} {d : Option Addr}
theorem call_isE1 (C : ExcC X.K D) (hz : Zc cls d oe) (hf : ∃ vs, oe.data = .fields vs) : CallR (X.suite a ((a, oe) :: pn)) (.builtin "isinstance") (rIsE1 X.K D a cls d) := by
  intro pins s σ H xs us Q I r h
  obtain ⟨c, cv, b, e1, rfl, rfl, hcv, e, q⟩ := h
  exact call_isE C hz hf pins s σ H xs us Q I r ⟨c, cv, b, e1, hcv, e, q⟩
theorem call_isET (C : ExcC X.K D) (hz : Zc cls d oe) (hf : ∃ vs, oe.data = .fields vs) : CallR (X.suite a ((a, oe) :: pn)) (.builtin "isinstance") (rIsET X.K D a cls d) := by
  intro pins s σ H xs us Q I r h
  obtain ⟨tp, cs, ws, b, rfl, rfl, rfl, hT, k, e, q⟩ := h
  obtain ⟨u1, u2, rfl, r1, r2⟩ := vals2 r
  cases (show u1 = Value.ref a from r1)
  cases (show u2 = Value.ref tp from r2)
  obtain ⟨hget, _⟩ := I.pin (a, oe) (List.mem_append.mpr (.inl List.mem_cons_self))
  obtain ⟨vs, hv⟩ := hf
  have J : PySem.W.InstAt s.heap a oe D none := by
    obtain ⟨oc, od, oda, osl⟩ := oe
    obtain ⟨h1, h2⟩ := hz
    dsimp only at h1 h2 hv
    subst h1 h2 hv
    exact ⟨hget, rfl, rfl, trivial⟩
  obtain ⟨_, its, rv, o, h1, h2, n, h3⟩ := (show ObjOk X.prog X.w H s.heap tp (.tup cs) from I.hok tp _ hT)
  have e3 := ClsV.all k rv
  subst e3
  obtain ⟨oc, od, dt, sl⟩ := o
  simp only at h2 h3
  subst h2 h3
  exact PySem.W.kia_tup (PySem.W.handS_kitx_exc C.hg C.hk C.hs C.hd C.ha C.hn C.ht C.hm) I.kIn J h1 e (fun z => nomatch z) fun tk => ⟨.bl b, H, I.kept (t' := tk) fun _ _ z => z, rfl, q⟩
end

/-! ### small words -/
theorem same_new {H : Hp} {p : Addr} (h : H p = none) (o : HO) : Same H (upd H p o) := fun b u q => by rw [upd_ne (ne_of_none q h)]; exact q
theorem same_make {H : Hp} {x dx C : Addr} (nx : H x = none) (nd : H dx = none) : Same H (upd (upd H dx (.own x)) x (.ins C dx [])) := fun b o e => by
  rw [upd_ne (ne_of_none e nx), upd_ne (ne_of_none e nd)]
  exact e
theorem ite_no {c A B : Prop} [Decidable c] (hc : ¬ c) (h : B) : if c then A else B := by rw [if_neg hc]; exact h
theorem ite_yes {c A B : Prop} [Decidable c] (hc : c) (h : A) : if c then A else B := by rw [if_pos hc]; exact h
end Mine
set_option Elab.async false
set_option linter.all false
set_option maxRecDepth 100000
set_option maxHeartbeats 2000000
/-! Rules of my own: != of own instances by an own __eq__; list(range(..)). -/
namespace Mine
open PySem PySem.Spec PyProof.Rows L2
section
variable {M : Model} {prog : Program} {w : World} {A : Around} {E : Value → Shared → Prop} {s : Shared} {K : PySem.W.Frag} {x C L f : Addr} {h₀ : Heap} {m : Str → Option Value} {ox : Obj} {od : Option Obj} {b tb : Value}
theorem ifBound_objNe {args : List Value} {Q : Option Value → Shared → Prop} (X : K.In s.heap) (I : PySem.W.InstAt s.heap x ox C od) (hs : PySem.W.findIn K (.ref C) "__ne__" = some (some (.builtin "object.__ne__")))
    (h : wpAny M A (call (.builtin "object.__ne__") (.ref x :: args)) (fun v => Q (some v)) E s) : wpAny M A (callSpecialIfBound? (.ref x) "__ne__" args) Q E s := by
  simp only [callSpecialIfBound?, bindSpecialIfBound?]
  refine wpAny_holding (wpAny_bind (wpAny_bind (wpAny_bind (I.type.here ((PySem.W.looks_findIn X hs).here ?_)))))
  refine wpAny_bind (wpAny_askSetting (wpAny_ite ?_))
  have fin : wpAny M A (call (.builtin "object.__ne__") ([.ref x] ++ args) >>= fun v => pure (some v)) Q E s := wpAny_bind (wpAny_mono h (fun v s' h' => wpAny_pure h') fun _ _ h' => h')
  split
  · exact wpAny_bind (wpAny_of_eq (F.cmp_object.ne.bind _) (wpAny_pure (by exact fin)))
  · exact wpAny_tryCatch (wpAny_bind (wpAny_of_eq (F.cmp_object.ne.bind _) (wpAny_pure (by exact fin))))
theorem entry_ne {Q : Fin → Shared → Prop} (X : K.In s.heap) (I : PySem.W.InstAt s.heap x ox C od) (hs : PySem.W.findIn K (.ref C) "__eq__" = some (some (.ref f))) (hf : PySem.W.isFn K (.ref f) = true) (hu : A.units < cLine)
    (hcall : wpAny M A (call (.ref f) [.ref x, b]) (fun v s' => ∃ c, v = .bool c ∧ Q (.done (.ret (.bool (!c)))) s') E s) :
    wpAny M A (Builtin.«object.__ne__» ⟨[.ref x, b], []⟩) Q E s := by
  unfold Builtin.«object.__ne__»
  repeat (first
    | with_reducible refine wpAny_cRoomFor hu ?_
    | (refine wpAny_bind (m := callSpecialIfBound? (.ref x) (Str.ofString "__eq__") [b])
        (PySem.W.ifBound_K X I hs hf (wpAny_mono hcall (fun r s' hr => by
          obtain ⟨b, rfl, hq⟩ := hr
          repeat (first | exact hq | exact wpAny_pure hq | exact wpAny_truthy_bool hq | (refine wpAny_bind (m := truthy (.bool _)) (wpAny_truthy_bool ?_)) | wp_step)) fun _ _ e => e)))
    | wp_step)
theorem call_objNe {Q : Value → Shared → Prop} (X : K.In s.heap) (I : PySem.W.InstAt s.heap x ox C od) (hm : PySem.W.mroIn K C (.type "object") = some true) (hs : PySem.W.findIn K (.ref C) "__eq__" = some (some (.ref f))) (hf : PySem.W.isFn K (.ref f) = true) (hu : A.in1.units < cLine)
    (hcall : wpAny (model prog w) A.in1 (call (.ref f) [.ref x, b]) (fun v s' => ∃ c, v = .bool c ∧ Q (.bool (!c)) s') E s) :
    wpAny (model prog w) A (call (.builtin "object.__ne__") [.ref x, b]) Q E s :=
  wpAny_call (codeAny_call_builtin F.cmp_object.ne.plain F.cmpEntry_ne (PySem.W.check_slot F.cmpKind_ne F.cmpSplit_ne (I.type.andThen (PySem.W.looks_mroIn X hm)) (F.cmpArgs_ne _ _) (entry_ne X I hs hf hu hcall)))
theorem ne_K {Q : Value → Shared → Prop} (hu : A.in1.units < cLine) (hu0 : A.units < cLine) (F : Fr h₀ L s.heap m) (X₀ : K.In h₀) (I : PySem.W.InstAt s.heap x ox C od) (hb : PySem.W.Looks (model prog w) s.heap (typeOf b) tb) (hn : PySem.W.notFirst K C tb = true)
    (hm : PySem.W.mroIn K C (.type "object") = some true) (hne : PySem.W.findIn K (.ref C) "__ne__" = some (some (.builtin "object.__ne__")))
    (hs : PySem.W.findIn K (.ref C) "__eq__" = some (some (.ref f))) (hf : PySem.W.isFn K (.ref f) = true)
    (h : wpAny (model prog w) A.in1 (call (.ref f) [.ref x, b]) (fun v s' => ∃ c, v = .bool c ∧ Q (.bool (!c)) s') E s) : wpAny (model prog w) A (richCompare .NotEq (.ref x) b) Q E s := by
  have X := X₀.keeps F.keep
  have one : wpAny (model prog w) A (tryCompare (.ref x) "__ne__" b) (fun r s' => ∃ v, r = some v ∧ Q v s') E s := by
    unfold tryCompare
    refine wpAny_bind (ifBound_objNe X I hne (call_objNe X I hm hs hf hu (wpAny_mono h (fun v s' hv => ?_) fun _ _ e => e)))
    obtain ⟨c, rfl, q⟩ := hv
    exact ⟨c, rfl, wpAny_pure ⟨_, rfl, q⟩⟩
  unfold richCompare
  simp only [oneThing_ref]
  refine wpAny_holding (wpAny_bind (wpAny_cRoomFor hu0 ?_))
  refine wpAny_bind (I.type.here (wpAny_bind (hb.here ?_)))
  split
  · rename_i q
    have e : PySem.W.subIn K tb (.ref C) = some false := by
      rcases Bool.or_eq_true_iff.mp hn with e | e
      · rw [beq_iff_eq.mp e] at q; simp at q
      · exact beq_iff_eq.mp e
    refine wpAny_bind ((PySem.W.looks_subIn X e).here ?_)
    simp only [Bool.false_eq_true, if_false]
    refine wpAny_bind (wpAny_mono one (fun r s' z => ?_) fun _ _ e => e)
    obtain ⟨v, rfl, hq⟩ := z
    exact wpAny_pure hq
  · refine wpAny_bind (wpAny_pure ?_)
    simp only [Bool.false_eq_true, if_false]
    refine wpAny_bind (wpAny_mono one (fun r s' z => ?_) fun _ _ e => e)
    obtain ⟨v, rfl, hq⟩ := z
    exact wpAny_pure hq
end
section
variable {X : Cx} {CX : CXT} {C f : Addr} {fd : FuncData} {ps : List Str} {sp : Sp} {E : XK} {n : Nat}
/-- != of two instances of one class with an own __eq__ -/
def rOwnN (C : Addr) (sp : Sp) (E : XK) : R2 := fun x y H Q => ∃ a b dx dy fs gs, x = .ref a ∧ y = .ref b ∧ H a = some (.ins C dx fs) ∧ H b = some (.ins C dy gs) ∧ sp [.ref a, .ref b] H (fun v H' => ∃ c, v = .bl c ∧ Q (.bl (!c)) H') E
theorem op_ownNe (F : FnOk X.prog X.w X.K X.mg X.base CX n f fd ps sp) (hr : Room (n + 1) X.A) (hb : Binds X.K fd ps []) (hx : Passes CX X E)
    (hm : PySem.W.mroIn X.K C (.type "object") = some true) (hne : PySem.W.findIn X.K (.ref C) "__ne__" = some (some (.builtin "object.__ne__")))
    (hs : PySem.W.findIn X.K (.ref C) "__eq__" = some (some (.ref f))) (hf : PySem.W.isFn X.K (.ref f) = true) : OpR X (compareOp .NotEq) (rOwnN C sp E) := by
  intro pins s σ H x y v u Q I rx ry h
  obtain ⟨a, b, dx, dy, fs, gs, rfl, rfl, ha, hb', q⟩ := h
  cases rx
  cases ry
  obtain ⟨mA, J, _⟩ := ins_get I.hok ha
  obtain ⟨mB, J', _⟩ := ins_get I.hok hb'
  obtain ⟨od, J, _⟩ := J.look
  obtain ⟨od', J', _⟩ := J'.look
  obtain ⟨m, hF⟩ := I.fr
  show wpAny (model X.prog X.w) X.A (richCompare .NotEq _ _) (EP X pins σ Q) X.xe s
  have hr2 : Room n X.A.in1 := hr.in1
  refine ne_K (tb := .ref C) hr2.units0 hr.units0 hF I.ok.mod.kin J J'.type (by simp [PySem.W.notFirst]) hm hne hs hf ?_
  have e0 : Env0 X.prog X.w X.K X.mg X.base X.A.in1 X.stack s H := by
    have e := I.env0
    exact ⟨e.frames, e.mod, e.bs, e.bsz, e.funs, e.frf, e.hok, e.bare⟩
  have hl := F.len _ _ _ _ q
  have r2 : Vals [V.ref a, V.ref b] [Value.ref a, Value.ref b] := .cons rfl (.cons rfl .nil)
  refine wpAny_call (codeAny_mono (F.run _ X.stack s H ⟨[.ref a, .ref b], []⟩ [.ref a, .ref b] [.ref a, .ref b] _ E hr2 e0 (by
    have := hb s [.ref a, .ref b] I.kIn (by simpa using hl)
    simpa using this) r2 q) fun r s' hq => ?_)
  cases r with
  | error e => exact hx pins σ H s e s' I hq
  | ok fl =>
    cases fl with
    | ret w =>
      obtain ⟨z, H', I', rz, c, ez, q'⟩ := I.after hq
      subst ez
      exact ⟨c, rz, .bl (!c), H', I', rfl, q'⟩
    | next => exact False.elim hq
    | brk => exact False.elim hq
    | cont => exact False.elim hq
/-- range(n) -/
theorem cr_range1 : CallR X (.type "range") (fun vs H Q => ∃ j, vs = [V.int j] ∧ ∀ p, H p = none → Q (.ref p) (upd H p (.rng 0 j))) := by
  intro pins s σ H vs us Q I r h
  obtain ⟨j, rfl, q⟩ := h
  obtain ⟨u1, rfl, ri⟩ := vals1 r
  obtain ⟨t, rfl⟩ := ri
  refine call_range_1 ⟨.ref s.heap.objs.size, upd H s.heap.objs.size (.rng 0 j), I.laid (t' := s.toks + 2) (fun b o e => Heap.get?_push_of_some _ e) (Nat.le_refl _) ?_, rfl, q _ (I.hok.fresh (Nat.le_refl _))⟩
  exact ⟨_, _, _, Heap.get?_push_size _ rfl⟩
/-- list(range(n)) -/
def rListRng : List V → Hp → VK → Prop := fun vs H Q => ∃ (p : Addr) (n : Nat), vs = [V.ref p] ∧ H p = some (.rng 0 n) ∧ n ≤ 1000 ∧ ∀ l, H l = none → Q (.ref l) (upd H l (.lst ((List.range n).map fun i => V.int (i : Nat))))
theorem vals_from {us : List Value} : ∀ (k n : Nat), us.length = n → (∀ j v, us[j]? = some v → ∃ t, v = Value.int (0 + ((k + j : Nat) : Int) * 1) t) → Vals ((List.range' k n).map fun i => V.int (i : Nat)) us := by
  induction us with
  | nil => intro k n hn _; cases hn; exact .nil
  | cons u us ih =>
    intro k n hn h
    cases hn
    rw [List.length_cons, List.range'_succ, List.map_cons]
    refine .cons ?_ (ih (k + 1) us.length rfl fun j v e => ?_)
    · obtain ⟨t, e⟩ := h 0 u rfl
      rw [e]
      exact ⟨t, by simp⟩
    · obtain ⟨t, e⟩ := h (j + 1) v (by simpa using e)
      exact ⟨t, by rw [e]; congr 2; omega⟩
theorem call_list_rng (hc : X.calm = true) : CallR X (.type "list") rListRng := by
  intro pins s σ H vs us Q I r h
  obtain ⟨p, n, rfl, hp, hn, q⟩ := h
  obtain ⟨u1, rfl, ri⟩ := vals1 r
  cases ri
  obtain ⟨t, u, v, e⟩ := (show ObjOk X.prog X.w H s.heap p (.rng 0 n) from I.hok p _ hp)
  have hs : Builtin.Range.rangeSize 0 (n : Int) 1 = n := by
    unfold Builtin.Range.rangeSize
    simp
    try omega
  have hsm : Builtin.Range.small 0 (n : Int) 1 = true := by
    unfold Builtin.Range.small Builtin.Range.rangeFitsLong
    rw [hs]
    simp
    try omega
  refine call_list_range (n := n) (I.ok.hd hc) e hsm hs (by omega) fun h' tk acc c' kp e' hi => ?_
  have hv := vals_from (us := acc.toList) 0 n (by simpa using hi.1) (fun j v z => by
    have := hi.2 j v (by simpa using z)
    simpa using this)
  rw [← List.range_eq_range'] at hv
  refine ⟨.ref s.heap.objs.size, upd H s.heap.objs.size (.lst ((List.range n).map fun i => V.int (i : Nat))), I.laid (t' := tk) kp (Nat.le_refl _) ⟨by rw [List.length_map, List.length_range]; exact Nat.le_trans hn (by decide), acc.toList, c', hv, by rw [Array.toArray_toList]; exact e'⟩, rfl, q _ (I.hok.fresh (Nat.le_refl _))⟩
end
end Mine
set_option Elab.async false
/-! Mathematics of fractions in lowest terms. -/
namespace Mine
/-- the fraction n / d in lowest terms (d positive) -/
def red (n d : Int) : Int × Int := (n / ((Nat.gcd n.natAbs d.natAbs : Nat) : Int), d / ((Nat.gcd n.natAbs d.natAbs : Nat) : Int))
theorem gcd_pos {n d : Int} (h : 0 < d) : 0 < Nat.gcd n.natAbs d.natAbs := Nat.gcd_pos_of_pos_right _ (by omega)
/-- n = g * p, d = g * q with p, q coprime -/
theorem red_spec {n d : Int} (h : 0 < d) : ∃ g : Nat, 0 < g ∧ n = g * (red n d).1 ∧ d = g * (red n d).2 ∧ Nat.gcd (red n d).1.natAbs (red n d).2.natAbs = 1 := by
  have gp := gcd_pos (n := n) h
  refine ⟨Nat.gcd n.natAbs d.natAbs, gp, ?_, ?_, ?_⟩
  · have hd : ((Nat.gcd n.natAbs d.natAbs : Nat) : Int) ∣ n := Int.ofNat_dvd_left.mpr (Nat.gcd_dvd_left _ _)
    exact (Int.mul_ediv_cancel' hd).symm
  · have hd : ((Nat.gcd n.natAbs d.natAbs : Nat) : Int) ∣ d := Int.ofNat_dvd_left.mpr (Nat.gcd_dvd_right _ _)
    exact (Int.mul_ediv_cancel' hd).symm
  · have hn : ((Nat.gcd n.natAbs d.natAbs : Nat) : Int) ∣ n := Int.ofNat_dvd_left.mpr (Nat.gcd_dvd_left _ _)
    have hd : ((Nat.gcd n.natAbs d.natAbs : Nat) : Int) ∣ d := Int.ofNat_dvd_left.mpr (Nat.gcd_dvd_right _ _)
    show Nat.gcd (n / ((Nat.gcd n.natAbs d.natAbs : Nat) : Int)).natAbs (d / ((Nat.gcd n.natAbs d.natAbs : Nat) : Int)).natAbs = 1
    rw [Int.natAbs_ediv_of_dvd hn, Int.natAbs_ediv_of_dvd hd, Int.natAbs_natCast]
    rw [Nat.gcd_div (Nat.gcd_dvd_left _ _) (Nat.gcd_dvd_right _ _)]
    exact Nat.div_self gp
theorem red_pos {n d : Int} (h : 0 < d) : 0 < (red n d).2 := by
  obtain ⟨g, g0, _, e2, _⟩ := red_spec (n := n) h
  have hg : (0 : Int) < g := by omega
  have : 0 < (g : Int) * (red n d).2 := by rw [← e2]; exact h
  exact Int.pos_of_mul_pos_right this (by omega)
theorem red_le {n d : Int} (h : 0 < d) : (red n d).1.natAbs ≤ n.natAbs ∧ (red n d).2.natAbs ≤ d.natAbs := by
  obtain ⟨g, g0, e1, e2, _⟩ := red_spec (n := n) h
  constructor
  · have e := congrArg Int.natAbs e1
    rw [Int.natAbs_mul, Int.natAbs_natCast] at e
    rw [e]
    exact Nat.le_mul_of_pos_left _ g0
  · have e := congrArg Int.natAbs e2
    rw [Int.natAbs_mul, Int.natAbs_natCast] at e
    exact Nat.le_trans (Nat.le_mul_of_pos_left _ g0) (Nat.le_of_eq e.symm)
theorem low_unique {p q p' q' : Int} (hq : 0 < q) (hq' : 0 < q') (c : Nat.gcd p.natAbs q.natAbs = 1) (c' : Nat.gcd p'.natAbs q'.natAbs = 1) (e : p * q' = p' * q) : p = p' ∧ q = q' := by
  have en : p.natAbs * q'.natAbs = p'.natAbs * q.natAbs := by
    have := congrArg Int.natAbs e
    rwa [Int.natAbs_mul, Int.natAbs_mul] at this
  have d1 : q.natAbs ∣ q'.natAbs := by
    have z : q.natAbs ∣ p.natAbs * q'.natAbs := by rw [en]; exact Nat.dvd_mul_left _ _
    exact Nat.Coprime.dvd_of_dvd_mul_left (Nat.Coprime.symm c) z
  have d2 : q'.natAbs ∣ q.natAbs := by
    have z : q'.natAbs ∣ p'.natAbs * q.natAbs := by rw [← en]; exact Nat.dvd_mul_left _ _
    exact Nat.Coprime.dvd_of_dvd_mul_left (Nat.Coprime.symm c') z
  have eq : q.natAbs = q'.natAbs := Nat.dvd_antisymm d1 d2
  have eq' : q = q' := by omega
  subst eq'
  exact ⟨Int.eq_of_mul_eq_mul_right (by omega) e, rfl⟩
theorem red_eq {n d n' d' : Int} (h : 0 < d) (h' : 0 < d') (e : n * d' = n' * d) : red n d = red n' d' := by
  obtain ⟨g, g0, e1, e2, c⟩ := red_spec (n := n) h
  obtain ⟨g', g0', e1', e2', c'⟩ := red_spec (n := n') h'
  have q0 := red_pos (n := n) h
  have q0' := red_pos (n := n') h'
  generalize red n d = r at *
  generalize red n' d' = r' at *
  obtain ⟨p, q⟩ := r
  obtain ⟨p', q'⟩ := r'
  dsimp only at *
  have hg : (0 : Int) < g := by omega
  have hg' : (0 : Int) < g' := by omega
  have hgg : (0 : Int) < g * g' := Int.mul_pos hg hg'
  have x : (g * g' : Int) * (p * q') = (g * g' : Int) * (p' * q) := by
    have y := e
    rw [e1, e2', e1', e2] at y
    have l : (g * p : Int) * (g' * q') = (g * g' : Int) * (p * q') := by ac_rfl
    have r : (g' * p' : Int) * (g * q) = (g * g' : Int) * (p' * q) := by ac_rfl
    rw [← l, ← r]
    exact y
  have z := Int.eq_of_mul_eq_mul_left (by omega) x
  obtain ⟨a, b⟩ := low_unique q0 q0' c c' z
  rw [a, b]
theorem red_of {n d : Int} (h : 0 < d) : (red n d).1 * d = n * (red n d).2 := by
  obtain ⟨g, g0, e1, e2, c⟩ := red_spec (n := n) h
  generalize red n d = r at *
  obtain ⟨p, q⟩ := r
  dsimp only at *
  rw [e1, e2]
  ac_rfl
/-- the two fractions' sum, difference, product from their lowest terms -/
theorem mul_swap4 (a b c d : Int) : a * b * (c * d) = a * c * (b * d) := by ac_rfl
theorem red_add {a b c d : Int} (hb : 0 < b) (hd : 0 < d) : red ((red a b).1 * (red c d).2 + (red c d).1 * (red a b).2) ((red a b).2 * (red c d).2) = red (a * d + c * b) (b * d) := by
  have h1 := red_of (n := a) hb
  have h2 := red_of (n := c) hd
  have p1 := red_pos (n := a) hb
  have p2 := red_pos (n := c) hd
  generalize red a b = r at *
  generalize red c d = r' at *
  obtain ⟨p, q⟩ := r
  obtain ⟨p', q'⟩ := r'
  dsimp only at *
  refine red_eq (Int.mul_pos p1 p2) (Int.mul_pos hb hd) ?_
  rw [Int.add_mul, Int.add_mul]
  have x1 : p * q' * (b * d) = a * d * (q * q') := by
    have : p * q' * (b * d) = (p * b) * (q' * d) := by ac_rfl
    rw [this, h1]
    ac_rfl
  have x2 : p' * q * (b * d) = c * b * (q * q') := by
    have : p' * q * (b * d) = (p' * d) * (q * b) := by ac_rfl
    rw [this, h2]
    ac_rfl
  rw [x1, x2]
theorem red_sub {a b c d : Int} (hb : 0 < b) (hd : 0 < d) : red ((red a b).1 * (red c d).2 - (red c d).1 * (red a b).2) ((red a b).2 * (red c d).2) = red (a * d - c * b) (b * d) := by
  have h1 := red_of (n := a) hb
  have h2 := red_of (n := c) hd
  have p1 := red_pos (n := a) hb
  have p2 := red_pos (n := c) hd
  generalize red a b = r at *
  generalize red c d = r' at *
  obtain ⟨p, q⟩ := r
  obtain ⟨p', q'⟩ := r'
  dsimp only at *
  refine red_eq (Int.mul_pos p1 p2) (Int.mul_pos hb hd) ?_
  rw [Int.sub_mul, Int.sub_mul]
  have x1 : p * q' * (b * d) = a * d * (q * q') := by
    have : p * q' * (b * d) = (p * b) * (q' * d) := by ac_rfl
    rw [this, h1]
    ac_rfl
  have x2 : p' * q * (b * d) = c * b * (q * q') := by
    have : p' * q * (b * d) = (p' * d) * (q * b) := by ac_rfl
    rw [this, h2]
    ac_rfl
  rw [x1, x2]
theorem red_mul {a b c d : Int} (hb : 0 < b) (hd : 0 < d) : red ((red a b).1 * (red c d).1) ((red a b).2 * (red c d).2) = red (a * c) (b * d) := by
  have h1 := red_of (n := a) hb
  have h2 := red_of (n := c) hd
  have p1 := red_pos (n := a) hb
  have p2 := red_pos (n := c) hd
  generalize red a b = r at *
  generalize red c d = r' at *
  obtain ⟨p, q⟩ := r
  obtain ⟨p', q'⟩ := r'
  dsimp only at *
  refine red_eq (Int.mul_pos p1 p2) (Int.mul_pos hb hd) ?_
  have : p * p' * (b * d) = (p * b) * (p' * d) := by ac_rfl
  rw [this, h1, h2]
  ac_rfl
theorem red_lt {a b c d : Int} (hb : 0 < b) (hd : 0 < d) : ((red a b).1 * (red c d).2 < (red c d).1 * (red a b).2) ↔ (a * d < c * b) := by
  obtain ⟨g, g0, e1, e2, _⟩ := red_spec (n := a) hb
  obtain ⟨g', g0', e1', e2', _⟩ := red_spec (n := c) hd
  generalize red a b = r at *
  generalize red c d = r' at *
  obtain ⟨p, q⟩ := r
  obtain ⟨p', q'⟩ := r'
  dsimp only at *
  have hgg : (0 : Int) < (g : Int) * g' := Int.mul_pos (by omega) (by omega)
  have l : a * d = (g * g' : Int) * (p * q') := by rw [e1, e2']; ac_rfl
  have r : c * b = (g * g' : Int) * (p' * q) := by rw [e1', e2]; ac_rfl
  rw [l, r]
  exact ⟨fun h => Int.mul_lt_mul_of_pos_left h hgg, fun h => Int.lt_of_mul_lt_mul_left h (Int.le_of_lt hgg)⟩
theorem red_eq_iff {a b c d : Int} (hb : 0 < b) (hd : 0 < d) : (red a b = red c d) ↔ (a * d = c * b) := by
  refine ⟨fun h => ?_, fun h => red_eq hb hd h⟩
  have h1 := red_of (n := a) hb
  have h2 := red_of (n := c) hd
  have p1 := red_pos (n := a) hb
  rw [← h] at h2
  generalize red a b = r at *
  obtain ⟨p, q⟩ := r
  dsimp only at *
  have x : q * (a * d) = q * (c * b) := by
    have y1 : q * (a * d) = (a * q) * d := by ac_rfl
    have y2 : q * (c * b) = (c * q) * b := by ac_rfl
    rw [y1, y2, ← h1, ← h2]
    ac_rfl
  exact Int.eq_of_mul_eq_mul_left (by omega) x
/-! ### Euclid's loop -/
/-- what holds ahead of turn i of the loop over (a, b), g the greatest common divisor of the start -/
def Euc (g P : Nat) (i : Nat) (a b : Int) : Prop := 0 ≤ a ∧ 0 ≤ b ∧ (0 < a ∨ 0 < b) ∧ Nat.gcd a.natAbs b.natAbs = g ∧ a.natAbs * b.natAbs * 2 ^ (i - 1) ≤ P ∧ (i = 0 ∨ b < a) ∧ a.natAbs ≤ P ∧ b.natAbs ≤ P
theorem euc_start {a b : Int} (ha : 0 ≤ a) (hb : 0 < b) {P : Nat} (h1 : a.natAbs * b.natAbs ≤ P) (h2 : a.natAbs ≤ P) (h3 : b.natAbs ≤ P) : Euc (Nat.gcd a.natAbs b.natAbs) P 0 a b :=
  ⟨ha, by omega, .inr hb, rfl, by simpa using h1, .inl rfl, h2, h3⟩
theorem euc_turn {g P i : Nat} {a b : Int} (h : Euc g P i a b) (hb : b ≠ 0) : Euc g P (i + 1) b (a % b) := by
  obtain ⟨a0, b0, _, hg, hp, hi, la, lb⟩ := h
  have bp : 0 < b := by omega
  have m0 := Int.emod_nonneg a (by omega : b ≠ 0)
  have m1 := Int.emod_lt_of_pos a bp
  obtain ⟨x, rfl⟩ := Int.eq_ofNat_of_zero_le a0
  obtain ⟨y, rfl⟩ := Int.eq_ofNat_of_zero_le b0
  have em : ((x : Int) % (y : Int)).natAbs = x % y := by rw [← Int.natCast_emod, Int.natAbs_natCast]
  rw [Int.natAbs_natCast, Int.natAbs_natCast] at hg hp
  rw [Int.natAbs_natCast] at la lb
  have yp : 0 < y := by omega
  have ml : x % y < y := Nat.mod_lt _ yp
  refine ⟨b0, m0, .inl bp, ?_, ?_, .inr m1, ?_, ?_⟩
  · rw [em, Int.natAbs_natCast, ← hg, Nat.gcd_comm x y, Nat.gcd_rec y x, Nat.gcd_comm]
  · rw [em, Int.natAbs_natCast]
    have hk : x % y ≤ x := Nat.mod_le _ _
    rcases hi with hi | hi
    · subst hi
      show y * (x % y) * 2 ^ 0 ≤ P
      have : y * (x % y) ≤ y * x := Nat.mul_le_mul_left _ hk
      rw [Nat.pow_zero, Nat.mul_one]
      refine Nat.le_trans this ?_
      rw [Nat.mul_comm]
      simpa using hp
    · have lt : y < x := by omega
      have half : 2 * (x % y) ≤ x := by
        have e := Nat.div_add_mod x y
        have d1 : 1 ≤ x / y := (Nat.one_le_div_iff yp).mpr (by omega)
        have : y ≤ y * (x / y) := Nat.le_mul_of_pos_right _ (by omega)
        omega
      cases i with
      | zero =>
        show y * (x % y) * 2 ^ 0 ≤ P
        have : y * (x % y) ≤ y * x := Nat.mul_le_mul_left _ hk
        rw [Nat.pow_zero, Nat.mul_one]
        refine Nat.le_trans this ?_
        rw [Nat.mul_comm]
        simpa using hp
      | succ j =>
        show y * (x % y) * 2 ^ (j + 1) ≤ P
        have e : y * (x % y) * 2 ^ (j + 1) = (y * (2 * (x % y))) * 2 ^ j := by rw [Nat.pow_succ]; ac_rfl
        rw [e]
        have q : x * y * 2 ^ j ≤ P := hp
        refine Nat.le_trans (Nat.mul_le_mul_right _ ?_) q
        rw [Nat.mul_comm x y]
        exact Nat.mul_le_mul_left _ half
  · rw [Int.natAbs_natCast]; exact lb
  · rw [em]; omega
theorem euc_end {g P i : Nat} {a : Int} (h : Euc g P i a 0) : a = (g : Int) ∧ 0 < a := by
  obtain ⟨a0, _, hz, hg, _⟩ := h
  rw [Int.natAbs_zero, Nat.gcd_zero_right] at hg
  omega
theorem euc_over {g P i : Nat} {a b : Int} (h : Euc g P (i + 1) a b) (hP : P < 2 ^ i) : b = 0 := by
  obtain ⟨a0, b0, hz, _, hp, hi, _⟩ := h
  rcases hi with hi | hi
  · omega
  by_cases q : b = 0
  · exact q
  · exfalso
    have h1 : 1 ≤ a.natAbs * b.natAbs := Nat.mul_pos (by omega) (by omega)
    have h2 : 2 ^ i ≤ a.natAbs * b.natAbs * 2 ^ i := Nat.le_mul_of_pos_left _ h1
    have h3 : a.natAbs * b.natAbs * 2 ^ (i + 1 - 1) ≤ P := hp
    rw [Nat.add_sub_cancel] at h3
    omega
end Mine
set_option Elab.async false
set_option linter.all false
/-! Fractions in lowest terms, as rational numbers. -/
namespace Mine
/-- the number n / d -/
def fr (n d : Int) : Rat := Rat.divInt n d
theorem fr_self (q : Rat) : fr q.num q.den = q := Rat.num_divInt_den q
theorem den_pos (q : Rat) : (0 : Int) < q.den := Int.ofNat_lt.mpr q.den_pos
theorem fr_eq {n d n' d' : Int} (h : 0 < d) (h' : 0 < d') : fr n d = fr n' d' ↔ n * d' = n' * d := Rat.divInt_eq_divInt_iff (by omega) (by omega)
theorem fr_cross {n d : Int} (h : 0 < d) : (fr n d).num * d = n * (fr n d).den := by
  have e := fr_self (fr n d)
  exact (fr_eq (den_pos _) h).mp e
theorem red_fr {n d : Int} (h : 0 < d) : red n d = ((fr n d).num, ((fr n d).den : Int)) := by
  obtain ⟨g, g0, e1, e2, c⟩ := red_spec (n := n) h
  have q0 := red_pos (n := n) h
  have x := red_of (n := n) h
  have y := fr_cross (n := n) h
  have cq : Nat.gcd (fr n d).num.natAbs ((fr n d).den : Int).natAbs = 1 := by
    rw [Int.natAbs_natCast]
    exact (fr n d).reduced
  have hg : (g : Int) ≠ 0 := by omega
  have z : (red n d).1 * ((fr n d).den : Int) = (fr n d).num * (red n d).2 := by
    generalize red n d = r at *
    generalize fr n d = f at *
    obtain ⟨p, q⟩ := r
    dsimp only at *
    have : (g : Int) * (p * f.den) = g * (f.num * q) := by
      calc (g : Int) * (p * f.den) = (g * p) * f.den := by ac_rfl
        _ = n * f.den := by rw [← e1]
        _ = f.num * d := y.symm
        _ = f.num * (g * q) := by rw [← e2]
        _ = g * (f.num * q) := by ac_rfl
    exact Int.eq_of_mul_eq_mul_left hg this
  obtain ⟨a, b⟩ := low_unique q0 (den_pos (fr n d)) c cq z
  exact Prod.ext a b
theorem red_num {n d : Int} (h : 0 < d) : (red n d).1 = (fr n d).num := by rw [red_fr h]
theorem red_den {n d : Int} (h : 0 < d) : (red n d).2 = ((fr n d).den : Int) := by rw [red_fr h]
theorem fr_add {n d n' d' : Int} (h : 0 < d) (h' : 0 < d') : fr (n * d' + n' * d) (d * d') = fr n d + fr n' d' := (Rat.divInt_add_divInt _ _ (by omega) (by omega)).symm
theorem fr_sub {n d n' d' : Int} (h : 0 < d) (h' : 0 < d') : fr (n * d' - n' * d) (d * d') = fr n d - fr n' d' := (Rat.divInt_sub_divInt _ _ (by omega) (by omega)).symm
theorem fr_mul {n d n' d' : Int} (h : 0 < d) (h' : 0 < d') : fr (n * n') (d * d') = fr n d * fr n' d' := (Rat.divInt_mul_divInt _ _ ).symm
theorem fr_int (n : Int) : fr n 1 = (n : Rat) := by
  have e := fr_self (n : Rat)
  rw [Rat.num_intCast, Rat.den_intCast] at e
  exact e
theorem num_int (n : Int) : ((n : Rat)).num = n := Rat.num_intCast n
theorem den_int (n : Int) : ((n : Rat)).den = 1 := Rat.den_intCast n
theorem lt_cross (a b : Rat) : a < b ↔ a.num * b.den < b.num * a.den := Rat.lt_iff a b
theorem eq_parts (a b : Rat) : a = b ↔ a.num = b.num ∧ a.den = b.den := ⟨fun h => by subst h; exact ⟨rfl, rfl⟩, fun h => Rat.ext h.1 h.2⟩
/-- a number whose numerator and denominator are below 2 ^ k -/
def Sz (k : Nat) (q : Rat) : Prop := q.num.natAbs < 2 ^ k ∧ q.den < 2 ^ k
theorem Sz.mono {j k : Nat} {q : Rat} (h : Sz j q) (hk : j ≤ k) : Sz k q := ⟨Nat.lt_of_lt_of_le h.1 (Nat.pow_le_pow_right (by decide) hk), Nat.lt_of_lt_of_le h.2 (Nat.pow_le_pow_right (by decide) hk)⟩
theorem sz_fr {k : Nat} {n d : Int} (h : 0 < d) (hn : n.natAbs < 2 ^ k) (hd : d.natAbs < 2 ^ k) : Sz k (fr n d) := by
  have x := red_le (n := n) h
  rw [red_num h, red_den h, Int.natAbs_natCast] at x
  exact ⟨Nat.lt_of_le_of_lt x.1 hn, Nat.lt_of_le_of_lt x.2 hd⟩
theorem nat_mul_lt {a b j k : Nat} (h : a < 2 ^ j) (h' : b < 2 ^ k) : a * b < 2 ^ (j + k) := by rw [Nat.pow_add]; exact Nat.mul_lt_mul'' h h'
theorem mul_lt2 {j k : Nat} {a b : Int} (ha : a.natAbs < 2 ^ j) (hb : b.natAbs < 2 ^ k) : (a * b).natAbs < 2 ^ (j + k) := by rw [Int.natAbs_mul]; exact nat_mul_lt ha hb
theorem add_lt2 {k : Nat} {a b : Int} (ha : a.natAbs < 2 ^ k) (hb : b.natAbs < 2 ^ k) : (a + b).natAbs < 2 ^ (k + 1) := by rw [Nat.pow_succ]; omega
theorem sub_lt2 {k : Nat} {a b : Int} (ha : a.natAbs < 2 ^ k) (hb : b.natAbs < 2 ^ k) : (a - b).natAbs < 2 ^ (k + 1) := by rw [Nat.pow_succ]; omega
theorem Sz.n {k : Nat} {q : Rat} (h : Sz k q) : q.num.natAbs < 2 ^ k := h.1
theorem Sz.d {k : Nat} {q : Rat} (h : Sz k q) : (q.den : Int).natAbs < 2 ^ k := by rw [Int.natAbs_natCast]; exact h.2
theorem sz_add {j k : Nat} {a b : Rat} (ha : Sz j a) (hb : Sz k b) : Sz (j + k + 1) (a + b) := by
  have e : a + b = fr (a.num * b.den + b.num * a.den) ((a.den : Int) * b.den) := by rw [fr_add (den_pos a) (den_pos b), fr_self, fr_self]
  rw [e]
  refine sz_fr (Int.mul_pos (den_pos a) (den_pos b)) ?_ ?_
  · have x := mul_lt2 ha.n hb.d
    have y := mul_lt2 hb.n ha.d
    rw [Nat.add_comm k j] at y
    exact add_lt2 x y
  · exact Nat.lt_trans (mul_lt2 ha.d hb.d) (Nat.pow_lt_pow_right (by decide) (by omega))
theorem sz_sub {j k : Nat} {a b : Rat} (ha : Sz j a) (hb : Sz k b) : Sz (j + k + 1) (a - b) := by
  have e : a - b = fr (a.num * b.den - b.num * a.den) ((a.den : Int) * b.den) := by rw [fr_sub (den_pos a) (den_pos b), fr_self, fr_self]
  rw [e]
  refine sz_fr (Int.mul_pos (den_pos a) (den_pos b)) ?_ ?_
  · have x := mul_lt2 ha.n hb.d
    have y := mul_lt2 hb.n ha.d
    rw [Nat.add_comm k j] at y
    exact sub_lt2 x y
  · exact Nat.lt_trans (mul_lt2 ha.d hb.d) (Nat.pow_lt_pow_right (by decide) (by omega))
theorem sz_mul {j k : Nat} {a b : Rat} (ha : Sz j a) (hb : Sz k b) : Sz (j + k) (a * b) := by
  have e : a * b = fr (a.num * b.num) ((a.den : Int) * b.den) := by rw [fr_mul (den_pos a) (den_pos b), fr_self, fr_self]
  rw [e]
  exact sz_fr (Int.mul_pos (den_pos a) (den_pos b)) (mul_lt2 ha.n hb.n) (mul_lt2 ha.d hb.d)
theorem sz_int {k : Nat} {n : Int} (h : n.natAbs < 2 ^ k) (hk : 0 < k := by decide) : Sz k (n : Rat) := by
  refine ⟨by rw [num_int]; exact h, ?_⟩
  rw [den_int]
  exact Nat.one_lt_two_pow (by omega)
theorem fr_nonneg {n d : Int} (h : 0 < d) : 0 ≤ fr n d ↔ 0 ≤ n := Rat.divInt_nonneg_iff_of_pos_right h
theorem num_neg {q : Rat} : q.num < 0 ↔ q < 0 := by
  have := @Rat.num_nonneg q
  constructor
  · intro h
    have : ¬ (0 ≤ q) := fun z => absurd (Rat.num_nonneg.mpr z) (by omega)
    exact Rat.not_le.mp this
  · intro h
    have h2 : ¬ (0 ≤ q.num) := fun z => Rat.not_lt.mpr (Rat.num_nonneg.mp z) h
    omega
end Mine
set_option Elab.async false
set_option linter.all false
/-! The mathematics of bounds. -/
namespace Mine
def pairsI (m : Int) : Int := m * (m - 1) / 2
theorem pairs_two (m : Int) : 2 * pairsI m = m * (m - 1) := by
  have h : m * (m - 1) % 2 = 0 := by
    have : m % 2 = 0 ∨ m % 2 = 1 := by omega
    rcases this with e | e
    · rw [Int.mul_emod, e]; simp
    · have : (m - 1) % 2 = 0 := by omega
      rw [Int.mul_emod, this]; simp
  unfold pairsI
  omega
theorem pairs_mul (k q : Int) : pairsI (k * q) = pairsI k * q + k * k * pairsI q := by
  have a := pairs_two (k * q)
  have b := pairs_two k
  have c := pairs_two q
  generalize pairsI (k * q) = x at *
  generalize pairsI k = y at *
  generalize pairsI q = z at *
  grind
theorem pairs_nonneg {m : Int} (h : 0 ≤ m) : 0 ≤ pairsI m := by
  have a := pairs_two m
  by_cases e : m = 0
  · subst e; simp [pairsI]
  · have : 0 ≤ m * (m - 1) := Int.mul_nonneg h (by omega)
    omega
theorem pairs_lt {k : Nat} {m : Int} (h0 : 0 ≤ m) (h : m.natAbs < 2 ^ k) : (pairsI m).natAbs < 2 ^ (k + k) := by
  have a := pairs_two m
  have b := pairs_nonneg h0
  have c : pairsI m ≤ m * m := by
    have : m * (m - 1) ≤ m * m := Int.mul_le_mul_of_nonneg_left (by omega) h0
    omega
  have d := mul_lt2 h h
  omega
structure Bq where
  a : Rat
  b : Rat
  c : Rat
  lim : Option Int
def over (lim : Option Int) (q : Int) : Bool := match lim with | some l => decide (l < q) | none => false
def Bq.sum (x : Bq) (q : Int) : Rat := x.a + x.b * (q : Rat) + x.c * ((pairsI q : Int) : Rat)
def Bq.at (x : Bq) (q : Int) : Rat := if q = 0 then 0 else if over x.lim q = true then 1 else if x.sum q < 1 then x.sum q else 1
def lmin : Option Int → Option Int → Option Int
  | none, y => y
  | some x, none => some x
  | some x, some y => some (min x y)
def Bq.plus (x y : Bq) : Bq := ⟨x.a + y.a, x.b + y.b, x.c + y.c, lmin x.lim y.lim⟩
def Bq.zero : Bq := ⟨0, 0, 0, none⟩
def Bq.within (x : Bq) (k : Int) : Bq := if k = 0 then Bq.zero else ⟨x.a, x.b * (k : Rat) + x.c * ((pairsI k : Int) : Rat), x.c * ((k * k : Int) : Rat), x.lim.map (· / k)⟩
structure Bq.Ok (n : Nat) (x : Bq) : Prop where
  a0 : 0 ≤ x.a
  b0 : 0 ≤ x.b
  c0 : 0 ≤ x.c
  az : Sz n x.a
  bz : Sz n x.b
  cz : Sz n x.c
  l0 : ∀ l, x.lim = some l → 0 ≤ l
theorem Bq.Ok.mono {j k : Nat} {x : Bq} (h : x.Ok j) (hk : j ≤ k) : x.Ok k := ⟨h.a0, h.b0, h.c0, h.az.mono hk, h.bz.mono hk, h.cz.mono hk, h.l0⟩
theorem cast_nonneg {n : Int} (h : 0 ≤ n) : (0 : Rat) ≤ (n : Rat) := Rat.intCast_nonneg.mpr h
theorem Bq.at_le (x : Bq) (q : Int) : x.at q ≤ 1 := by
  unfold Bq.at
  split
  · decide
  · split
    · exact Rat.le_refl
    · split
      · rename_i h; exact Rat.le_of_lt h
      · exact Rat.le_refl
theorem Bq.within_sum (x : Bq) {k : Int} (hk : k ≠ 0) (q : Int) : (x.within k).sum q = x.sum (k * q) := by
  unfold Bq.within Bq.sum
  rw [if_neg hk]
  dsimp only
  rw [pairs_mul]
  simp only [Rat.intCast_add, Rat.intCast_mul]
  grind
theorem Bq.zero_at (q : Int) : Bq.zero.at q = 0 := by
  unfold Bq.at Bq.sum Bq.zero over
  dsimp only
  split
  · rfl
  · have e : (0 : Rat) + 0 * (q : Rat) + 0 * ((pairsI q : Int) : Rat) = 0 := by grind
    rw [e]
    simp
    try decide
/-- within is at least the bound for as many inner calls -/
theorem Bq.within_at (x : Bq) {n : Nat} (o : x.Ok n) {k q : Int} (hk : 0 ≤ k) (hq : 0 ≤ q) : ¬ ((x.within k).at q < x.at (k * q)) := by
  by_cases e : k = 0
  · subst e
    have h1 : x.within 0 = Bq.zero := rfl
    have h2 : x.at (0 * q) = 0 := by rw [Int.zero_mul]; rfl
    rw [h1, h2, Bq.zero_at]
    exact Rat.lt_irrefl
  have k0 : 0 < k := by omega
  by_cases e2 : q = 0
  · subst e2
    have h1 : x.at (k * 0) = 0 := by rw [Int.mul_zero]; rfl
    have h2 : (x.within k).at 0 = 0 := rfl
    rw [h1, h2]
    exact Rat.lt_irrefl
  have q0 : 0 < q := by omega
  have kq : k * q ≠ 0 := by
    have := Int.mul_pos k0 q0
    omega
  have top := x.at_le (k * q)
  have lims : (x.within k).lim = x.lim.map (· / k) := by unfold Bq.within; rw [if_neg e]
  have ov : over (x.lim.map (· / k)) q = over x.lim (k * q) := by
    cases x.lim with
    | none => rfl
    | some l =>
      show decide (l / k < q) = decide (l < k * q)
      refine decide_eq_decide.mpr ?_
      rw [Int.mul_comm k q]
      exact Int.ediv_lt_iff_lt_mul k0
  have s := x.within_sum e q
  unfold Bq.at
  rw [if_neg e2, if_neg kq, lims, ov, s]
  exact Rat.lt_irrefl
theorem Bq.plus_ok {n : Nat} {x y : Bq} (hx : x.Ok n) (hy : y.Ok n) : (x.plus y).Ok (n + n + 1) := by
  refine ⟨Rat.add_nonneg hx.a0 hy.a0, Rat.add_nonneg hx.b0 hy.b0, Rat.add_nonneg hx.c0 hy.c0, sz_add hx.az hy.az, sz_add hx.bz hy.bz, sz_add hx.cz hy.cz, fun l e => ?_⟩
  have h1 := hx.l0
  have h2 := hy.l0
  have e' : lmin x.lim y.lim = some l := e
  revert h1 h2 e'
  cases x.lim with
  | none => intro h1 h2 e'; exact h2 l e'
  | some a =>
    cases y.lim with
    | none => intro h1 h2 e'; exact h1 l e'
    | some b =>
      intro h1 h2 e'
      have a0 := h1 a rfl
      have b0 := h2 b rfl
      have : min a b = l := Option.some.inj e'
      omega
theorem Bq.within_ok {x : Bq} (hx : x.Ok 30) {k : Int} (hk : 0 ≤ k) (h : k.natAbs < 2 ^ 10) : (x.within k).Ok 100 := by
  unfold Bq.within
  split
  · exact ⟨by decide, by decide, by decide, ⟨by decide, by decide⟩, ⟨by decide, by decide⟩, ⟨by decide, by decide⟩, fun l e => nomatch e⟩
  · rename_i e
    have sk : Sz 10 (k : Rat) := sz_int h
    have sp : Sz 20 ((pairsI k : Int) : Rat) := sz_int (pairs_lt hk h)
    have skk : Sz 20 ((k * k : Int) : Rat) := sz_int (mul_lt2 h h)
    have p0 := cast_nonneg (pairs_nonneg hk)
    have k0 := cast_nonneg hk
    have kk0 := cast_nonneg (Int.mul_nonneg hk hk)
    refine ⟨hx.a0, Rat.add_nonneg (Rat.mul_nonneg hx.b0 k0) (Rat.mul_nonneg hx.c0 p0), Rat.mul_nonneg hx.c0 kk0, hx.az.mono (by decide), (sz_add (sz_mul hx.bz sk) (sz_mul hx.cz sp)).mono (by decide), (sz_mul hx.cz skk).mono (by decide), fun l z => ?_⟩
    have h1 := hx.l0
    revert h1 z
    cases x.lim with
    | none => intro z h1; cases z
    | some a =>
      intro z h1
      have a0 := h1 a rfl
      cases z
      exact Int.ediv_nonneg a0 hk
theorem sz_one : Sz 2 (1 : Rat) := ⟨by decide, by decide⟩
theorem sz_zero : Sz 2 (0 : Rat) := ⟨by decide, by decide⟩
theorem Bq.sz_sum {x : Bq} (hx : x.Ok 100) {q : Int} (h0 : 0 ≤ q) (h : q.natAbs < 2 ^ 64) : Sz 165 (x.b * (q : Rat)) ∧ Sz 266 (x.a + x.b * (q : Rat)) ∧ Sz 229 (x.c * ((pairsI q : Int) : Rat)) ∧ Sz 500 (x.sum q) := by
  have sq : Sz 64 (q : Rat) := sz_int h
  have sp : Sz 128 ((pairsI q : Int) : Rat) := sz_int (pairs_lt h0 h)
  exact ⟨(sz_mul hx.bz sq).mono (by decide), (sz_add hx.az (sz_mul hx.bz sq)).mono (by decide), (sz_mul hx.cz sp).mono (by decide), (sz_add (sz_add hx.az (sz_mul hx.bz sq)) (sz_mul hx.cz sp)).mono (by decide)⟩
theorem Bq.sz_at {x : Bq} (hx : x.Ok 100) {q : Int} (h0 : 0 ≤ q) (h : q.natAbs < 2 ^ 64) : Sz 500 (x.at q) := by
  unfold Bq.at
  split
  · exact sz_zero.mono (by decide)
  · split
    · exact sz_one.mono (by decide)
    · split
      · exact (Bq.sz_sum hx h0 h).2.2.2
      · exact sz_one.mono (by decide)
end Mine
set_option Elab.async false
set_option linter.all false
set_option maxRecDepth 100000
set_option maxHeartbeats 2000000
/-! Games as data: expressions, statements, blocks, games; how they stand in the heap. -/
namespace Gm
open PySem L2
/-! ### data that stands keeps standing -/
theorem same_new {H : Hp} {p : Addr} (h : H p = none) (o : HO) : Same H (upd H p o) := fun b u q => by rw [upd_ne (ne_of_none q h)]; exact q
theorem sqT_mono {K : PySem.W.Frag} {H H' : Hp} {a : Addr} {xs : List V} (e : Same H H') (h : SqT K H a xs) : SqT K H' a xs := by
  rcases h with (h | ⟨o, h⟩) | h
  · exact .inl (.inl (e _ _ h))
  · exact .inl (.inr ⟨o, e _ _ h⟩)
  · exact .inr h
mutual
theorem dp_mono {K : PySem.W.Frag} {H H' : Hp} (s : Same H H') : ∀ (d : PyData) (v : V), Dp K H v d → Dp K H' v d
  | .none, _, h => by cases h; exact .non
  | .bool b, _, h => by cases h; exact .bl b
  | .int i, _, h => by cases h; exact .int i
  | .str x, _, h => by cases h; exact .str x
  | .list ds, _, h => by
    cases h with
    | lst hs ha => exact .lst (s.seq hs) (dp_monoAll s ds _ ha)
  | .tuple ds, _, h => by
    cases h with
    | tup hs ha => exact .tup (sqT_mono s hs) (dp_monoAll s ds _ ha)
  | .dict _, _, h => by cases h
theorem dp_monoAll {K : PySem.W.Frag} {H H' : Hp} (s : Same H H') : ∀ (ds : List PyData) (vs : List V), DpAll K H vs ds → DpAll K H' vs ds
  | [], _, h => by cases h; exact .nil
  | d :: ds, _, h => by
    cases h with
    | cons h1 h2 => exact .cons (dp_mono s d _ h1) (dp_monoAll s ds _ h2)
end
section
variable {K : PySem.W.Frag} {H : Hp}
theorem DpAll.len : ∀ {vs : List V} {ds : List PyData}, DpAll K H vs ds → vs.length = ds.length
  | _, _, .nil => rfl
  | _, _, .cons _ t => congrArg Nat.succ (DpAll.len t)
theorem DpAll.app : ∀ {vs ws : List V} {ds es : List PyData}, DpAll K H vs ds → DpAll K H ws es → DpAll K H (vs ++ ws) (ds ++ es)
  | _, _, _, _, .nil, q => q
  | _, _, _, _, .cons h t, q => .cons h (DpAll.app t q)
theorem DpAll.get : ∀ {vs : List V} {ds : List PyData} {i : Nat} {d : PyData}, DpAll K H vs ds → ds[i]? = some d → ∃ v, vs[i]? = some v ∧ Dp K H v d
  | _, _, _, _, .nil, e => by simp at e
  | _, _, 0, _, .cons h _, e => by simp at e; subst e; exact ⟨_, rfl, h⟩
  | _, _, i + 1, _, .cons _ t, e => by
    obtain ⟨v, h1, h2⟩ := DpAll.get (i := i) t (by simpa using e)
    exact ⟨v, by simpa using h1, h2⟩
theorem dp_strs : ∀ xs : List Str, DpAll K H (xs.map V.str) (xs.map PyData.str)
  | [] => .nil
  | x :: xs => .cons (.str x) (dp_strs xs)
/-- a new tuple of data -/
theorem dp_tup {p : Addr} {vs : List V} {ds : List PyData} (hp : H p = none) (h : DpAll K H vs ds) : Dp K (upd H p (.tup vs)) (.ref p) (.tuple ds) := .tup (SqT.of upd_same) (dp_monoAll (same_new hp _) _ _ h)
end
/-! ### rules whose written part is named (within comprehensions) -/
section
variable {X : Cx}
theorem ixlK (K : PySem.W.Frag) (h : X.K = K) : IxR X (rIxL K) := by subst h; exact ix_list
theorem ixtK (K : PySem.W.Frag) (h : X.K = K) : IxR X (rIxT K) := by subst h; exact ix_tup
theorem lenK (K : PySem.W.Frag) (h : X.K = K) : CallR X (.builtin "len") (fun xs H Q => ∃ p ys, xs = [.ref p] ∧ (SqL K H p ys ∨ SqT K H p ys) ∧ Q (.int ys.length) H) := by subst h; exact call_len_seq
theorem inK (K : PySem.W.Frag) (h : X.K = K) : OpR X (compareOp .In) (rIn K false) := by subst h; exact op_in_seq
theorem eqDK (K : PySem.W.Frag) (h : X.K = K) (hu : X.A.units + 64 < cLine) : OpR X (compareOp .Eq) (rEqD K) := by subst h; exact op_eqD hu
theorem neDK (K : PySem.W.Frag) (h : X.K = K) (hu : X.A.units + 64 < cLine) : OpR X (compareOp .NotEq) (rNeD K) := by subst h; exact op_neD hu
theorem slLK (K : PySem.W.Frag) (h : X.K = K) : SlR X (rSlL K) := by subst h; exact sl_list
theorem slTK (K : PySem.W.Frag) (h : X.K = K) : SlR X (rSlA K) := by subst h; exact sl_tupA
end
/-! ### data without lists: it stands as long as the tuples stand -/
mutual
def nol : PyData → Bool
  | .list _ => false
  | .dict _ => false
  | .tuple ds => nolAll ds
  | _ => true
def nolAll : List PyData → Bool
  | [] => true
  | d :: ds => nol d && nolAll ds
end
theorem nolAll_app : ∀ (xs ys : List PyData), nolAll (xs ++ ys) = (nolAll xs && nolAll ys)
  | [], ys => by show nolAll ys = (nolAll [] && nolAll ys); unfold nolAll; rw [Bool.true_and]; all_goals rfl
  | x :: xs, ys => by show (nol x && nolAll (xs ++ ys)) = ((nol x && nolAll xs) && nolAll ys); rw [nolAll_app xs ys, Bool.and_assoc]
theorem nolAll_strs : ∀ xs : List Str, nolAll (xs.map PyData.str) = true
  | [] => rfl
  | x :: xs => by show (nol (.str x) && nolAll (xs.map PyData.str)) = true; rw [nolAll_strs xs]; rfl
/-- tuples and what is locked stand -/
def Tups (H H' : Hp) : Prop := ∀ b o, H b = some o → ((∃ xs, o = .tup xs) ∨ ∃ ob u, o = .frz ob u) → H' b = some o
theorem Tups.of {H H' : Hp} (s : Same H H') : Tups H H' := fun b o e _ => s b o e
theorem Tups.refl (H : Hp) : Tups H H := fun _ _ e _ => e
theorem Tups.trans {H H1 H2 : Hp} (a : Tups H H1) (b : Tups H1 H2) : Tups H H2 := fun c o e k => b c o (a c o e k) k
theorem Tups.lst {H : Hp} {l : Addr} {xs : List V} {o : HO} (h : H l = some (.lst xs)) : Tups H (upd H l o) := fun b u e k => by
  rw [upd_ne]
  · exact e
  · intro z
    subst z
    rw [h] at e
    cases e
    rcases k with ⟨_, z⟩ | ⟨_, _, z⟩ <;> cases z
theorem sqT_tups {K : PySem.W.Frag} {H H' : Hp} {a : Addr} {xs : List V} (e : Tups H H') (h : SqT K H a xs) : SqT K H' a xs := by
  rcases h with (h | ⟨o, h⟩) | h
  · exact .inl (.inl (e _ _ h (.inl ⟨_, rfl⟩)))
  · exact .inl (.inr ⟨o, e _ _ h (.inr ⟨_, _, rfl⟩)⟩)
  · exact .inr h
mutual
theorem dp_tups {K : PySem.W.Frag} {H H' : Hp} (s : Tups H H') : ∀ (d : PyData) (v : V), nol d = true → Dp K H v d → Dp K H' v d
  | .none, _, _, h => by cases h; exact .non
  | .bool b, _, _, h => by cases h; exact .bl b
  | .int i, _, _, h => by cases h; exact .int i
  | .str x, _, _, h => by cases h; exact .str x
  | .list ds, _, n, h => by unfold nol at n; cases n
  | .tuple ds, _, n, h => by
    unfold nol at n
    cases h with
    | tup hs ha => exact .tup (sqT_tups s hs) (dp_tupsAll s ds _ n ha)
  | .dict _, _, _, h => by cases h
theorem dp_tupsAll {K : PySem.W.Frag} {H H' : Hp} (s : Tups H H') : ∀ (ds : List PyData) (vs : List V), nolAll ds = true → DpAll K H vs ds → DpAll K H' vs ds
  | [], _, _, h => by cases h; exact .nil
  | d :: ds, _, n, h => by
    unfold nolAll at n
    rw [Bool.and_eq_true] at n
    cases h with
    | cons h1 h2 => exact .cons (dp_tups s d _ n.1 h1) (dp_tupsAll s ds _ n.2 h2)
end
/-! ### expressions and statements -/
inductive Ex where
  | num (n : Int) | loc (x : Str) | var (x : Str) | has (t : Str) (e : Ex) | cell (t : Str) (e : Ex) | op (o : Str) (a b : Ex)
mutual
inductive Stm where
  | set (x : Str) (e : Ex) | lt (l : Str) (e : Ex) | draw (l : Str) (n : Int) | put (t : Str) (e f : Ex) | lot (l o : Str) (e : Ex) | ask (l p : Str) (e : Ex) | ite (e : Ex) (a b : Blk) | bad | after (a : Blk)
inductive Blk where
  | nil | cons (s : Stm) (r : Blk)
end
def Ex.d : Ex → PyData
  | .num n => .tuple [.str "number", .int n]
  | .loc x => .tuple [.str "local", .str x]
  | .var x => .tuple [.str "variable", .str x]
  | .has t e => .tuple [.str "has", .str t, e.d]
  | .cell t e => .tuple [.str "cell", .str t, e.d]
  | .op o a b => .tuple [.str o, a.d, b.d]
mutual
def Stm.d : Stm → PyData
  | .set x e => .tuple [.str "set", .str x, e.d]
  | .lt l e => .tuple [.str "let", .str l, e.d]
  | .draw l n => .tuple [.str "draw", .str l, .int n]
  | .put t e f => .tuple [.str "put", .str t, e.d, f.d]
  | .lot l o e => .tuple [.str "lot", .str l, .str o, e.d]
  | .ask l p e => .tuple [.str "ask", .str l, .str p, e.d]
  | .ite e a b => .tuple [.str "if", e.d, .tuple a.ds, .tuple b.ds]
  | .bad => .tuple [.str "bad"]
  | .after a => .tuple [.str "after", .tuple a.ds]
def Blk.ds : Blk → List PyData
  | .nil => []
  | .cons s r => s.d :: r.ds
end
def Blk.d (b : Blk) : PyData := .tuple b.ds
theorem Ex.nol : ∀ e : Ex, nol e.d = true
  | .num n => rfl
  | .loc x => rfl
  | .var x => rfl
  | .has t e => by show (Gm.nol (.str "has") && (Gm.nol (.str t) && (Gm.nol e.d && nolAll []))) = true; rw [Ex.nol e]; rfl
  | .cell t e => by show (Gm.nol (.str "cell") && (Gm.nol (.str t) && (Gm.nol e.d && nolAll []))) = true; rw [Ex.nol e]; rfl
  | .op o a b => by show (Gm.nol (.str o) && (Gm.nol a.d && (Gm.nol b.d && nolAll []))) = true; rw [Ex.nol a, Ex.nol b]; rfl
mutual
theorem Stm.nol : ∀ x : Stm, nol x.d = true
  | .set x e => by unfold Stm.d; show (Gm.nol (.str "set") && (Gm.nol (.str x) && (Gm.nol e.d && nolAll []))) = true; rw [Ex.nol e]; rfl
  | .lt x e => by unfold Stm.d; show (Gm.nol (.str "let") && (Gm.nol (.str x) && (Gm.nol e.d && nolAll []))) = true; rw [Ex.nol e]; rfl
  | .draw l n => by unfold Stm.d; rfl
  | .put t e f => by unfold Stm.d; show (Gm.nol (.str "put") && (Gm.nol (.str t) && (Gm.nol e.d && (Gm.nol f.d && nolAll [])))) = true; rw [Ex.nol e, Ex.nol f]; rfl
  | .lot l o e => by unfold Stm.d; show (Gm.nol (.str "lot") && (Gm.nol (.str l) && (Gm.nol (.str o) && (Gm.nol e.d && nolAll [])))) = true; rw [Ex.nol e]; rfl
  | .ask l p e => by unfold Stm.d; show (Gm.nol (.str "ask") && (Gm.nol (.str l) && (Gm.nol (.str p) && (Gm.nol e.d && nolAll [])))) = true; rw [Ex.nol e]; rfl
  | .ite e a b => by unfold Stm.d; show (Gm.nol (.str "if") && (Gm.nol e.d && (nolAll a.ds && (nolAll b.ds && nolAll [])))) = true; rw [Ex.nol e, Blk.nol a, Blk.nol b]; rfl
  | .bad => by unfold Stm.d; rfl
  | .after a => by unfold Stm.d; show (Gm.nol (.str "after") && (nolAll a.ds && nolAll [])) = true; rw [Blk.nol a]; rfl
theorem Blk.nol : ∀ b : Blk, nolAll b.ds = true
  | .nil => by unfold Blk.ds; rfl
  | .cons s r => by unfold Blk.ds; show (Gm.nol s.d && nolAll r.ds) = true; rw [Stm.nol s, Blk.nol r]; rfl
end
def Blk.of : List Stm → Blk
  | [] => .nil
  | s :: r => .cons s (Blk.of r)
def Blk.app : Blk → Blk → Blk
  | .nil, c => c
  | .cons s r, c => .cons s (r.app c)
theorem Blk.ds_app : ∀ (b c : Blk), (b.app c).ds = b.ds ++ c.ds
  | .nil, c => by rw [Blk.app, Blk.ds]; rfl
  | .cons s r, c => by rw [Blk.app, Blk.ds, Blk.ds, Blk.ds_app r c]; rfl
def Ex.dep : Ex → Nat
  | .num _ => 1
  | .loc _ => 1
  | .var _ => 1
  | .has _ e => e.dep + 1
  | .cell _ e => e.dep + 1
  | .op _ a b => max a.dep b.dep + 1
/-! the depth of ifs and afters, 0 without -/
mutual
def Stm.dep : Stm → Nat
  | .ite _ a b => max a.dep b.dep + 1
  | .after a => a.dep + 1
  | _ => 0
def Blk.dep : Blk → Nat
  | .nil => 0
  | .cons s r => max s.dep r.dep
end
def ops : List Str := ["+", "-", "*", "/", "mod", "<", "="]
/-- the names in scope -/
structure Sc where
  locs : List Str
  vars : List Str
  tabs : List Str
  lots : List Str
  asks : List Str
/-- an expression over the names of a scope, at most k deep -/
def Ex.Ok (s : Sc) : Nat → Ex → Prop
  | 0, _ => False
  | _ + 1, .num n => 0 ≤ n ∧ n ≤ 65535
  | _ + 1, .loc x => x ∈ s.locs
  | _ + 1, .var x => x ∈ s.vars
  | k + 1, .has t e => t ∈ s.tabs ∧ e.Ok s k
  | k + 1, .cell t e => t ∈ s.tabs ∧ e.Ok s k
  | k + 1, .op o a b => o ∈ ops ∧ a.Ok s k ∧ b.Ok s k
theorem Ex.Ok.mono {s : Sc} : ∀ {k j : Nat} {e : Ex}, e.Ok s k → k ≤ j → e.Ok s j
  | 0, _, _, h, _ => h.elim
  | _ + 1, 0, _, _, hj => absurd hj (by omega)
  | _ + 1, _ + 1, .num _, h, _ => h
  | _ + 1, _ + 1, .loc _, h, _ => h
  | _ + 1, _ + 1, .var _, h, _ => h
  | k + 1, j + 1, .has _ _, h, hj => ⟨h.1, h.2.mono (by omega)⟩
  | k + 1, j + 1, .cell _ _, h, hj => ⟨h.1, h.2.mono (by omega)⟩
  | k + 1, j + 1, .op _ _ _, h, hj => ⟨h.1, h.2.1.mono (by omega), h.2.2.mono (by omega)⟩
/-! a statement over a scope: expressions at most k deep, ifs and afters at most d deep -/
mutual
def Stm.Ok (s : Sc) (k : Nat) : Nat → Stm → Prop
  | _, .set x e => x ∈ s.vars ∧ e.Ok s k
  | _, .lt l e => l ∈ s.locs ∧ e.Ok s k
  | _, .draw l n => l ∈ s.locs ∧ 1 ≤ n ∧ n ≤ 64
  | _, .put t e f => t ∈ s.tabs ∧ e.Ok s k ∧ f.Ok s k
  | _, .lot l o e => l ∈ s.locs ∧ o ∈ s.lots ∧ e.Ok s k
  | _, .ask l p e => l ∈ s.locs ∧ p ∈ s.asks ∧ e.Ok s k
  | 0, .ite _ _ _ => False
  | d + 1, .ite e a b => e.Ok s k ∧ a.Ok s k d ∧ b.Ok s k d
  | _, .bad => True
  | 0, .after _ => False
  | d + 1, .after a => a.Ok s k d
def Blk.Ok (s : Sc) (k : Nat) : Nat → Blk → Prop
  | _, .nil => True
  | d, .cons x r => x.Ok s k d ∧ r.Ok s k d
end
def Blk.len : Blk → Nat
  | .nil => 0
  | .cons _ r => r.len + 1
theorem Blk.len_ds : ∀ b : Blk, b.ds.length = b.len
  | .nil => by rw [Blk.ds]; rfl
  | .cons s r => by rw [Blk.ds, Blk.len, List.length_cons, Blk.len_ds r]
theorem Blk.len_app : ∀ (b c : Blk), (b.app c).len = b.len + c.len
  | .nil, c => by rw [Blk.app, Blk.len, Nat.zero_add]
  | .cons s r, c => by rw [Blk.app, Blk.len, Blk.len, Blk.len_app r c]; omega
theorem Blk.ok_app {s : Sc} {k d : Nat} : ∀ {b c : Blk}, b.Ok s k d → c.Ok s k d → (b.app c).Ok s k d
  | .nil, c, _, h => by rw [Blk.app]; exact h
  | .cons x r, c, h1, h2 => by
    rw [Blk.app]
    unfold Blk.Ok at h1 ⊢
    exact ⟨h1.1, Blk.ok_app h1.2 h2⟩
/-! ### picks -/
theorem pick_mem {xs : List Str} {r : Int} (h : xs ≠ []) : ∃ x ∈ xs, atI (xs.map V.str) (r % (((xs.map V.str).length : Nat) : Int)) = some (.str x) := by
  have hl : 0 < xs.length := List.length_pos_iff.mpr h
  rw [List.length_map]
  have h0 := Int.emod_nonneg r (by omega : (xs.length : Int) ≠ 0)
  have h1 := Int.emod_lt_of_pos r (by omega : (0 : Int) < xs.length)
  have hk : (r % (xs.length : Int)).toNat < xs.length := by omega
  refine ⟨xs[(r % (xs.length : Int)).toNat], List.getElem_mem hk, ?_⟩
  exact at_of (j := (r % (xs.length : Int)).toNat) (by omega) (by rw [List.getElem?_map, List.getElem?_eq_getElem hk] <;> rfl)
theorem len_pos {xs : List Str} (h : xs ≠ []) : (0 : Int) < (((xs.map V.str).length : Nat) : Int) := by
  rw [List.length_map]
  have := List.length_pos_iff.mpr h
  omega
/-- an item of a written display, whatever the rest -/
theorem pick_disp {vs : List V} {r : Int} {n : Nat} (hn : vs.length = n) (h : 0 < n) : ∃ x ∈ vs, atI vs (r % (n : Int)) = some x := by
  subst hn
  have h0 := Int.emod_nonneg r (by omega : (vs.length : Int) ≠ 0)
  have h1 := Int.emod_lt_of_pos r (by omega : (0 : Int) < vs.length)
  have hk : (r % (vs.length : Int)).toNat < vs.length := by omega
  exact ⟨vs[(r % (vs.length : Int)).toNat], List.getElem_mem hk, at_of (j := (r % (vs.length : Int)).toNat) (by omega) (List.getElem?_eq_getElem hk)⟩
theorem pick_op {r : Int} : ∃ o ∈ ops, atI ([.str "+", .str "-", .str "*", .str "/", .str "mod", .str "<", .str "="] : List V) (r % 7) = some (.str o) := by
  obtain ⟨x, hx, e⟩ := pick_mem (xs := ops) (r := r) (by decide)
  exact ⟨x, hx, e⟩
theorem pick_two {a b : V} {r : Int} : atI ([a, b] : List V) (r % 2) = some a ∨ atI ([a, b] : List V) (r % 2) = some b := by
  have h0 := Int.emod_nonneg r (by decide : (2 : Int) ≠ 0)
  have h1 := Int.emod_lt_of_pos r (by decide : (0 : Int) < 2)
  have : r % 2 = 0 ∨ r % 2 = 1 := by omega
  rcases this with e | e
  · rw [e]; exact .inl rfl
  · rw [e]; exact .inr rfl
theorem and_if {c A B T1 : Prop} [Decidable c] (hB : B) (hT : c → B → T1) : if c then T1 else (if false = true then A else B) := by
  by_cases h : c
  · rw [if_pos h]; exact hT h hB
  · rw [if_neg h, if_neg Bool.false_ne_true]; exact hB
theorem ne_of_len {xs : List Str} (h : decide ((0 : Int) < (((xs.map V.str).length : Nat) : Int)) = true) : xs ≠ [] := by
  intro e
  subst e
  exact absurd (of_decide_eq_true h) (by decide)
/-- an if without an else: what holds behind it, both ways -/
theorem if_rest {b A : Prop} [Decidable b] {D : Ends} {σ : L2.St} {H : Hp} (I : L2.St → Hp → Prop) (rest : ∀ σ H, I σ H → D.nx σ H) (ht : b → (∀ σ H, I σ H → D.nx σ H) → A) (he : ¬ b → I σ H) : if b then A else tNext D σ H := by
  by_cases h : b
  · rw [if_pos h]; exact ht h rest
  · rw [if_neg h]; exact rest σ H (he h)
theorem Blk.ok_nil {s : Sc} {k d : Nat} : Blk.nil.Ok s k d := by unfold Blk.Ok; trivial
theorem Blk.ok_cons {s : Sc} {k d : Nat} {x : Stm} {r : Blk} (h : x.Ok s k d) (hr : r.Ok s k d) : (Blk.cons x r).Ok s k d := by unfold Blk.Ok; exact ⟨h, hr⟩
theorem Stm.ok_ite {s : Sc} {k d : Nat} {e : Ex} {a b : Blk} (h : e.Ok s k) (ha : a.Ok s k d) (hb : b.Ok s k d) : (Stm.ite e a b).Ok s k (d + 1) := by unfold Stm.Ok; exact ⟨h, ha, hb⟩
theorem Stm.ok_after {s : Sc} {k d : Nat} {a : Blk} (ha : a.Ok s k d) : (Stm.after a).Ok s k (d + 1) := by unfold Stm.Ok; exact ha
theorem Stm.ok_bad {s : Sc} {k d : Nat} : Stm.bad.Ok s k d := by cases d <;> (unfold Stm.Ok; trivial)
mutual
theorem Stm.ok_mono {s : Sc} {k : Nat} : ∀ {d e : Nat} {x : Stm}, x.Ok s k d → d ≤ e → x.Ok s k e
  | d, e, .set _ _, h, _ => by unfold Stm.Ok at h ⊢; exact h
  | d, e, .lt _ _, h, _ => by unfold Stm.Ok at h ⊢; exact h
  | d, e, .draw _ _, h, _ => by unfold Stm.Ok at h ⊢; exact h
  | d, e, .put _ _ _, h, _ => by unfold Stm.Ok at h ⊢; exact h
  | d, e, .lot _ _ _, h, _ => by unfold Stm.Ok at h ⊢; exact h
  | d, e, .ask _ _ _, h, _ => by unfold Stm.Ok at h ⊢; exact h
  | d, e, .bad, _, _ => Stm.ok_bad
  | 0, e, .ite _ _ _, h, _ => by unfold Stm.Ok at h; exact h.elim
  | d + 1, 0, .ite _ _ _, h, he => absurd he (by omega)
  | d + 1, e + 1, .ite _ _ _, h, he => by unfold Stm.Ok at h ⊢; exact ⟨h.1, Blk.ok_mono h.2.1 (by omega), Blk.ok_mono h.2.2 (by omega)⟩
  | 0, e, .after _, h, _ => by unfold Stm.Ok at h; exact h.elim
  | d + 1, 0, .after _, h, he => absurd he (by omega)
  | d + 1, e + 1, .after _, h, he => by unfold Stm.Ok at h ⊢; exact Blk.ok_mono h (by omega)
theorem Blk.ok_mono {s : Sc} {k : Nat} : ∀ {d e : Nat} {b : Blk}, b.Ok s k d → d ≤ e → b.Ok s k e
  | d, e, .nil, _, _ => Blk.ok_nil
  | d, e, .cons x r, h, he => by unfold Blk.Ok at h ⊢; exact ⟨Stm.ok_mono h.1 he, Blk.ok_mono h.2 he⟩
end
/-! ### a list of data that grows -/
structure Acc (K : PySem.W.Frag) (H0 H : Hp) (l : Addr) (vs : List V) (ds : List PyData) : Prop where
  s : Same H0 H
  f : H0 l = none
  l : H l = some (.lst vs)
  d : DpAll K H vs ds
  n : nolAll ds = true
section
variable {K : PySem.W.Frag} {H0 H H' : Hp} {l : Addr} {vs : List V} {ds : List PyData} {v : V} {d : PyData}
theorem Acc.start (h : H0 l = none) : Acc K H0 (upd H0 l (.lst [])) l [] [] := ⟨same_new h _, h, upd_same, .nil, rfl⟩
theorem Acc.grow (a : Acc K H0 H l vs ds) (e : Same H H') : Acc K H0 H' l vs ds := ⟨a.s.trans e, a.f, e _ _ a.l, dp_monoAll e _ _ a.d, a.n⟩
theorem Acc.add (a : Acc K H0 H l vs ds) (hd : Dp K H v d) (hn : nol d = true) : Acc K H0 (upd H l (.lst (vs ++ [v]))) l (vs ++ [v]) (ds ++ [d]) := by
  have tp : Tups H (upd H l (.lst (vs ++ [v]))) := Tups.lst a.l
  refine ⟨fun b o e => by rw [upd_ne (ne_of_none e a.f)]; exact a.s _ _ e, a.f, upd_same, DpAll.app (dp_tupsAll tp _ _ a.n a.d) (.cons (dp_tups tp _ _ hn hd) .nil), ?_⟩
  rw [nolAll_app, a.n]
  show (true && (nol d && nolAll [])) = true
  rw [hn]
  rfl
theorem Acc.len (a : Acc K H0 H l vs ds) : vs.length = ds.length := DpAll.len a.d
end
/-! ### a slice of a tuple, whichever it is -/
def rSlB (K : PySem.W.Frag) : V → Option Int → Option Int → Hp → VK → Prop := fun x lo hi H Q => ∃ a xs, x = .ref a ∧ SqT K H a xs ∧ ∀ p H', Same H H' → SqT K H' p (cutV xs lo hi) → Q (.ref p) H'
theorem slTB {X : Cx} (K : PySem.W.Frag) (h : X.K = K) : SlR X (rSlB K) := by
  subst h
  intro pins s σ H x v vl vu lo hi sl Q I rx hs pl pu h
  obtain ⟨a, xs, rfl, hx, q⟩ := h
  refine sl_tupA pins s σ H _ v vl vu lo hi sl Q I rx hs pl pu ⟨a, xs, rfl, hx, fun w => q a H (Same.refl _) ?_, fun _ p hp => q p _ (same_new hp _) (SqT.of upd_same)⟩
  have e : cutV xs lo hi = xs := by
    unfold cutV
    rw [w.1, w.2, List.drop_zero, Nat.sub_zero, List.take_length]
  rw [e]
  exact hx
theorem cut3 {r : Int} (h0 : 0 ≤ r) (h1 : r < 2) : cutV [.str "g", .str "a", .str "b"] none (some (2 + r)) = ([("g" : Str), "a"]).map V.str ∨ cutV [.str "g", .str "a", .str "b"] none (some (2 + r)) = ([("g" : Str), "a", "b"]).map V.str := by
  have : r = 0 ∨ r = 1 := by omega
  rcases this with rfl | rfl
  · exact .inl rfl
  · exact .inr rfl
theorem take_more {α : Type} : ∀ {l : List α} {i : Nat} {x : α}, l[i]? = some x → l.take (i + 1) = l.take i ++ [x]
  | [], i, x, h => by simp at h
  | a :: l, 0, x, h => by
    have e : a = x := Option.some.inj h
    subst e
    rfl
  | a :: l, i + 1, x, h => by
    have ih := take_more (l := l) (i := i) (x := x) h
    show a :: l.take (i + 1) = a :: l.take i ++ [x]
    rw [ih]
    rfl
theorem str_at {xs : List Str} {i : Nat} (h : i < (((xs.map V.str).length : Nat) : Int).toNat) : ∃ x, xs[i]? = some x ∧ atI (xs.map V.str) (0 + (i : Int)) = some (.str x) := by
  rw [List.length_map] at h
  have hi : i < xs.length := by omega
  exact ⟨xs[i], List.getElem?_eq_getElem hi, at_of (j := i) (by omega) (by rw [List.getElem?_map, List.getElem?_eq_getElem hi] <;> rfl)⟩
/-! ### games -/
structure Pr where
  name : Str
  size : Int
  ans : Int
  locs : List Str
  block : Blk
  res : Ex
structure Ga where
  vars : List (Str × Int × Int)
  tabs : List (Str × Int × Int)
  lots : List (Str × Int × Int)
  procs : List Pr
def trip (t : Str × Int × Int) : PyData := .tuple [.str t.1, .int t.2.1, .int t.2.2]
def strD (xs : List Str) : PyData := .tuple (xs.map PyData.str)
def Pr.d (p : Pr) : PyData := .tuple [.str p.name, .int p.size, .int p.ans, strD p.locs, p.block.d, p.res.d]
def trips (ts : List (Str × Int × Int)) : PyData := .tuple (ts.map trip)
def Ga.d (g : Ga) : PyData := .tuple [trips g.vars, trips g.tabs, trips g.lots, .tuple (g.procs.map Pr.d)]
theorem nol_trip (t : Str × Int × Int) : nol (trip t) = true := rfl
theorem nolAll_trips : ∀ ts : List (Str × Int × Int), nolAll (ts.map trip) = true
  | [] => rfl
  | t :: ts => by show (nol (trip t) && nolAll (ts.map trip)) = true; rw [nolAll_trips ts]; rfl
theorem Pr.nol (p : Pr) : nol p.d = true := by
  show (Gm.nol (.str p.name) && (Gm.nol (.int p.size) && (Gm.nol (.int p.ans) && (nolAll (p.locs.map PyData.str) && (nolAll p.block.ds && (Gm.nol p.res.d && nolAll [])))))) = true
  rw [nolAll_strs, Blk.nol, Ex.nol]
  rfl
theorem nolAll_procs : ∀ ps : List Pr, nolAll (ps.map Pr.d) = true
  | [] => rfl
  | p :: ps => by show (nol p.d && nolAll (ps.map Pr.d)) = true; rw [nolAll_procs ps, Pr.nol]; rfl
theorem Ga.nol (g : Ga) : nol g.d = true := by
  show (nolAll (g.vars.map trip) && (nolAll (g.tabs.map trip) && (nolAll (g.lots.map trip) && (nolAll (g.procs.map Pr.d) && nolAll [])))) = true
  rw [nolAll_trips, nolAll_trips, nolAll_trips, nolAll_procs]
  rfl
def Ga.sc (g : Ga) (locs asks : List Str) : Sc := ⟨locs, g.vars.map (·.1), g.tabs.map (·.1), g.lots.map (·.1), asks⟩
/-! ### the games that the laws draw -/
structure PrOk (g : Ga) (p : Pr) : Prop where
  size : 1 ≤ p.size ∧ p.size ≤ 3
  ans : 2 ≤ p.ans ∧ p.ans ≤ 4
  locs : p.locs = (["g", "a"] : List Str) ∨ p.locs = (["g", "a", "b"] : List Str)
  block : p.block.Ok (g.sc p.locs []) 3 2
  len : 1 ≤ p.block.len ∧ p.block.len ≤ 4
  res : p.res.Ok (g.sc p.locs []) 3
structure GaOk (g : Ga) : Prop where
  vars : g.vars.map (·.1) = ([] : List Str) ∨ g.vars.map (·.1) = (["x"] : List Str) ∨ g.vars.map (·.1) = (["x", "y"] : List Str)
  var : ∀ v ∈ g.vars, (v.2.1 = 2 ∨ v.2.1 = 3 ∨ v.2.1 = 65535) ∧ (v.2.2 = 0 ∨ v.2.2 = 1)
  tabs : g.tabs.map (·.1) = ([] : List Str) ∨ g.tabs.map (·.1) = (["t"] : List Str) ∨ g.tabs.map (·.1) = (["t", "m"] : List Str)
  tab : ∀ v ∈ g.tabs, (v.2.1 = 2 ∨ v.2.1 = 3) ∧ (v.2.2 = 2 ∨ v.2.2 = 3)
  lots : g.lots.map (·.1) = ([] : List Str) ∨ g.lots.map (·.1) = (["o"] : List Str) ∨ g.lots.map (·.1) = (["o", "k"] : List Str)
  lot : ∀ v ∈ g.lots, (v.2.1 = 2 ∨ v.2.1 = 3) ∧ v.2.2 = 2
  procs : g.procs.map (·.name) = (["p"] : List Str) ∨ g.procs.map (·.name) = (["p", "r"] : List Str)
  proc : ∀ p ∈ g.procs, PrOk g p
/-! ### more picks -/
theorem dig_at {ds : List Int} {i : Int} (h0 : 0 ≤ i) (h1 : i < (ds.length : Int)) : ∃ d ∈ ds, atI (ds.map V.int) i = some (.int d) := by
  have hk : i.toNat < ds.length := by omega
  exact ⟨ds[i.toNat], List.getElem_mem hk, at_of (j := i.toNat) (by omega) (by rw [List.getElem?_map, List.getElem?_eq_getElem hk] <;> rfl)⟩
theorem cut2 {a b : Str} {j : Int} (h0 : 0 ≤ j) (h1 : j ≤ 2) : cutV ([V.str a, V.str b]) none (some j) = (([a, b] : List Str).take j.toNat).map V.str := by
  have : j = 0 ∨ j = 1 ∨ j = 2 := by omega
  rcases this with rfl | rfl | rfl <;> rfl
theorem take2 {a b : Str} (n : Nat) (h : n ≤ 2) : ([a, b] : List Str).take n = [] ∨ ([a, b] : List Str).take n = [a] ∨ ([a, b] : List Str).take n = [a, b] := by
  have : n = 0 ∨ n = 1 ∨ n = 2 := by omega
  rcases this with rfl | rfl | rfl
  · exact .inl rfl
  · exact .inr (.inl rfl)
  · exact .inr (.inr rfl)
end Gm
set_option Elab.async false
set_option linter.all false
set_option maxRecDepth 100000
set_option maxHeartbeats 4000000
namespace Toy
open PySem L2 Mine
def top (i : Nat) : Stmt := PySem.Challenge.pw_tellsnone_k30_bounds.main.body.getD i (.Pass ⟨0, 0, 0, 0⟩)
abbrev s_Ratio_init : Stmt := inClass (top 8) 0
theorem sc_Ratio_init : FnScope ["self", "num", "den", "common"] ["self", "num", "den"] (defScope s_Ratio_init) := ⟨rfl, rfl, rfl, by decide +kernel, rfl, by decide +kernel, by decide +kernel⟩
abbrev s_Ratio_add : Stmt := inClass (top 8) 1
theorem sc_Ratio_add : FnScope ["self", "other"] ["self", "other"] (defScope s_Ratio_add) := ⟨rfl, rfl, rfl, by decide +kernel, rfl, by decide +kernel, by decide +kernel⟩
abbrev s_Ratio_mul : Stmt := inClass (top 8) 3
theorem sc_Ratio_mul : FnScope ["self", "other"] ["self", "other"] (defScope s_Ratio_mul) := ⟨rfl, rfl, rfl, by decide +kernel, rfl, by decide +kernel, by decide +kernel⟩
abbrev s_Ratio_eq : Stmt := inClass (top 8) 4
theorem sc_Ratio_eq : FnScope ["self", "other"] ["self", "other"] (defScope s_Ratio_eq) := ⟨rfl, rfl, rfl, by decide +kernel, rfl, by decide +kernel, by decide +kernel⟩
abbrev s_Ratio_below : Stmt := inClass (top 8) 6
theorem sc_Ratio_below : FnScope ["self", "other"] ["self", "other"] (defScope s_Ratio_below) := ⟨rfl, rfl, rfl, by decide +kernel, rfl, by decide +kernel, by decide +kernel⟩
abbrev s_Bound_init : Stmt := inClass (top 10) 0
theorem sc_Bound_init : FnScope ["self", "flat", "first", "more", "limit"] ["self", "flat", "first", "more", "limit"] (defScope s_Bound_init) := ⟨rfl, rfl, rfl, by decide +kernel, rfl, by decide +kernel, by decide +kernel⟩
abbrev s_Bound_eq : Stmt := inClass (top 10) 1
theorem sc_Bound_eq : FnScope ["self", "other"] ["self", "other"] (defScope s_Bound_eq) := ⟨rfl, rfl, rfl, by decide +kernel, rfl, by decide +kernel, by decide +kernel⟩
abbrev s_Bound_at : Stmt := inClass (top 10) 2
theorem sc_Bound_at : FnScope ["self", "calls", "found"] ["self", "calls"] (defScope s_Bound_at) := ⟨rfl, rfl, rfl, by decide +kernel, rfl, by decide +kernel, by decide +kernel⟩
abbrev s_Bound_plus : Stmt := inClass (top 10) 3
theorem sc_Bound_plus : FnScope ["self", "other", "limit"] ["self", "other"] (defScope s_Bound_plus) := ⟨rfl, rfl, rfl, by decide +kernel, rfl, by decide +kernel, by decide +kernel⟩
abbrev s_Bound_within : Stmt := inClass (top 10) 4
theorem sc_Bound_within : FnScope ["self", "asks", "first", "limit"] ["self", "asks"] (defScope s_Bound_within) := ⟨rfl, rfl, rfl, by decide +kernel, rfl, by decide +kernel, by decide +kernel⟩
abbrev s_pairs : Stmt := top 11
theorem sc_pairs : FnScope ["many"] ["many"] (defScope s_pairs) := ⟨rfl, rfl, rfl, by decide +kernel, rfl, by decide +kernel, by decide +kernel⟩
abbrev s_smaller_limit : Stmt := top 12
theorem sc_smaller_limit : FnScope ["limit", "other"] ["limit", "other"] (defScope s_smaller_limit) := ⟨rfl, rfl, rfl, by decide +kernel, rfl, by decide +kernel, by decide +kernel⟩
abbrev s_nothing : Stmt := top 13
theorem sc_nothing : FnScope [] [] (defScope s_nothing) := ⟨rfl, rfl, rfl, by decide +kernel, rfl, by decide +kernel, by decide +kernel⟩
abbrev s_law_cell : Stmt := top 15
theorem sc_law_cell : FnScope ["script", "k"] ["script", "k"] (defScope s_law_cell) := ⟨rfl, rfl, rfl, by decide +kernel, rfl, by decide +kernel, by decide +kernel⟩
abbrev s_law_row : Stmt := top 17
theorem sc_law_row : FnScope ["cell", "count", "size", "state", "row", "k"] ["cell", "count", "size"] (defScope s_law_row) := ⟨rfl, rfl, rfl, by decide +kernel, rfl, by decide +kernel, by decide +kernel⟩
abbrev s_law_less : Stmt := top 18
theorem sc_law_less : FnScope ["num", "den", "a", "b", "k", "c"] ["num", "den"] (defScope s_law_less) := ⟨rfl, rfl, rfl, by decide +kernel, rfl, by decide +kernel, by decide +kernel⟩
abbrev s_law_plus : Stmt := top 19
theorem sc_law_plus : FnScope ["one", "other"] ["one", "other"] (defScope s_law_plus) := ⟨rfl, rfl, rfl, by decide +kernel, rfl, by decide +kernel, by decide +kernel⟩
abbrev s_law_times : Stmt := top 20
theorem sc_law_times : FnScope ["one", "other"] ["one", "other"] (defScope s_law_times) := ⟨rfl, rfl, rfl, by decide +kernel, rfl, by decide +kernel, by decide +kernel⟩
abbrev s_law_drawn : Stmt := top 21
theorem sc_law_drawn : FnScope ["cell", "digits", "tall", "parts", "k", "part", "limit"] ["cell"] (defScope s_law_drawn) := ⟨rfl, rfl, rfl, by decide +kernel, rfl, by decide +kernel, by decide +kernel⟩
abbrev s_law_made : Stmt := top 22
theorem sc_law_made : FnScope ["drawn", "parts", "pair"] ["drawn"] (defScope s_law_made) := ⟨rfl, rfl, rfl, by decide +kernel, rfl, by decide +kernel, by decide +kernel⟩
abbrev s_law_at : Stmt := top 23
theorem sc_law_at : FnScope ["drawn", "calls", "result"] ["drawn", "calls"] (defScope s_law_at) := ⟨rfl, rfl, rfl, by decide +kernel, rfl, by decide +kernel, by decide +kernel⟩
abbrev s_law_plus_of : Stmt := top 24
theorem sc_law_plus_of : FnScope ["one", "other", "limits", "drawn", "limit", "k"] ["one", "other"] (defScope s_law_plus_of) := ⟨rfl, rfl, rfl, by decide +kernel, rfl, by decide +kernel, by decide +kernel⟩
abbrev s_law_within : Stmt := top 25
theorem sc_law_within : FnScope ["drawn", "asks", "limit", "parts", "first"] ["drawn", "asks"] (defScope s_law_within) := ⟨rfl, rfl, rfl, by decide +kernel, rfl, by decide +kernel, by decide +kernel⟩
abbrev s_law_is : Stmt := top 26
theorem sc_law_is : FnScope ["actual", "due", "wide", "pair", "calls", "told"] ["actual", "due", "wide"] (defScope s_law_is) := ⟨rfl, rfl, rfl, by decide +kernel, rfl, by decide +kernel, by decide +kernel⟩
abbrev s_law_refused : Stmt := top 27
theorem sc_law_refused : FnScope ["flat", "first", "more", "limit", "e"] ["flat", "first", "more", "limit"] (defScope s_law_refused) := ⟨rfl, rfl, rfl, by decide +kernel, rfl, by decide +kernel, by decide +kernel⟩
abbrev s_law_told : Stmt := top 28
theorem sc_law_told : FnScope ["drawn", "pair"] ["drawn"] (defScope s_law_told) := ⟨rfl, rfl, rfl, by decide +kernel, rfl, by decide +kernel, by decide +kernel⟩
abbrev s_law : Stmt := top 29
theorem sc_law : FnScope ["script", "one", "other", "asks", "wide", "bounds", "plus", "inner", "empty", "calls", "low", "zero", "parts", "part", "below", "k", "row"] ["script"] (defScope s_law) := ⟨rfl, rfl, rfl, by decide +kernel, rfl, by decide +kernel, by decide +kernel⟩
/-! ### a ratio's attributes -/
theorem nd_ : ¬ (("num" : Str) = "den") := by decide +kernel
def rf (q : Rat) : List (Str × V) := putF "den" (.int (q.den : Int)) (putF "num" (.int q.num) [])
theorem rf_num (q : Rat) : (rf q).lookup ("num" : Str) = some (.int q.num) := by
  unfold rf
  rw [lookup_putF, if_neg nd_, lookup_putF, if_pos rfl]
theorem rf_den (q : Rat) : (rf q).lookup ("den" : Str) = some (.int (q.den : Int)) := by
  unfold rf
  rw [lookup_putF, if_pos rfl]
theorem rf_no (q : Rat) {m : Str} (h1 : ¬ m = "num") (h2 : ¬ m = "den") : (rf q).lookup m = none := by
  unfold rf
  rw [lookup_putF, if_neg h2, lookup_putF, if_neg h1]
  all_goals rfl
/-- a Ratio of the value q -/
def RV (C : Addr) (H : Hp) (p : Addr) (q : Rat) : Prop := ∃ dx, H p = some (.ins C dx (rf q))
theorem RV.same {C : Addr} {H H' : Hp} {p : Addr} {q : Rat} (r : RV C H p q) (s : Same H H') : RV C H' p q := let ⟨dx, h⟩ := r; ⟨dx, s _ _ h⟩
/-! ### a bound's attributes -/
def lV : Option Int → V
  | none => .non
  | some l => .int l
theorem b1_ : ¬ (("flat" : Str) = "first") := by decide +kernel
theorem b2_ : ¬ (("flat" : Str) = "more") := by decide +kernel
theorem b3_ : ¬ (("flat" : Str) = "limit") := by decide +kernel
theorem b4_ : ¬ (("first" : Str) = "more") := by decide +kernel
theorem b5_ : ¬ (("first" : Str) = "limit") := by decide +kernel
theorem b6_ : ¬ (("more" : Str) = "limit") := by decide +kernel
def bf (a b c : Addr) (l : V) : List (Str × V) := putF "limit" l (putF "more" (.ref c) (putF "first" (.ref b) (putF "flat" (.ref a) [])))
section
variable (a b c : Addr) (l : V)
theorem bf_flat : (bf a b c l).lookup ("flat" : Str) = some (.ref a) := by unfold bf; rw [lookup_putF, if_neg b3_, lookup_putF, if_neg b2_, lookup_putF, if_neg b1_, lookup_putF, if_pos rfl]
theorem bf_first : (bf a b c l).lookup ("first" : Str) = some (.ref b) := by unfold bf; rw [lookup_putF, if_neg b5_, lookup_putF, if_neg b4_, lookup_putF, if_pos rfl]
theorem bf_more : (bf a b c l).lookup ("more" : Str) = some (.ref c) := by unfold bf; rw [lookup_putF, if_neg b6_, lookup_putF, if_pos rfl]
theorem bf_limit : (bf a b c l).lookup ("limit" : Str) = some l := by unfold bf; rw [lookup_putF, if_pos rfl]
theorem bf_no {m : Str} (h1 : ¬ m = "flat") (h2 : ¬ m = "first") (h3 : ¬ m = "more") (h4 : ¬ m = "limit") : (bf a b c l).lookup m = none := by
  unfold bf
  rw [lookup_putF, if_neg h4, lookup_putF, if_neg h3, lookup_putF, if_neg h2, lookup_putF, if_neg h1]
  all_goals rfl
end
/-- a Bound of the value x -/
def BV (CB CR : Addr) (H : Hp) (p : Addr) (x : Bq) : Prop := ∃ dx a b c, H p = some (.ins CB dx (bf a b c (lV x.lim))) ∧ RV CR H a x.a ∧ RV CR H b x.b ∧ RV CR H c x.c
theorem BV.same {CB CR : Addr} {H H' : Hp} {p : Addr} {x : Bq} (r : BV CB CR H p x) (s : Same H H') : BV CB CR H' p x :=
  let ⟨dx, a, b, c, h, h1, h2, h3⟩ := r
  ⟨dx, a, b, c, s _ _ h, h1.same s, h2.same s, h3.same s⟩
/-- below 2 ^ k -/
abbrev Sm (k : Nat) (n : Int) : Prop := n.natAbs < 2 ^ k
theorem Sm.mono {j k : Nat} {n : Int} (h : Sm j n) (hk : j ≤ k) : Sm k n := Nat.lt_of_lt_of_le h (Nat.pow_le_pow_right (by decide) hk)
theorem cmul {j k : Nat} {a b : Int} (ha : Sm j a) (hb : Sm k b) (h0 : 0 < j := by decide) (h1 : 0 < k := by decide) (h : j + k ≤ 1000000 := by decide) : CMulW a b := wide_mul ha hb h0 h1 h
theorem cdiv {k : Nat} {a b : Int} (h : 0 < b) (hb : Sm k b) (h0 : 0 < k := by decide) (h9 : k ≤ 9000 := by decide) : CDivW a b := wide_div h hb h0 h9
theorem sm_gcd {k : Nat} {n d : Int} (hd : 0 < d) (h : Sm k d) : Sm k ((Nat.gcd n.natAbs d.natAbs : Nat) : Int) := by
  show ((Nat.gcd n.natAbs d.natAbs : Nat) : Int).natAbs < 2 ^ k
  rw [Int.natAbs_natCast]
  exact Nat.lt_of_le_of_lt (Nat.le_of_dvd (by omega) (Nat.gcd_dvd_right _ _)) h
theorem same_upd {H H' : Hp} {x dx C : Addr} (nx : H x = none) (nd : H dx = none) (hk : ∀ b o, (upd (upd H dx (.own x)) x (.ins C dx [])) b = some o → b ≠ x → H' b = some o) : Same H H' :=
  fun b o e => hk b o (same_make nx nd b o e) (ne_of_none e nx)
/-! ### the promises of the program -/
def spInit (C B : Addr) : Sp := fun vs H Q E => ∃ (p dx : Addr) (num den : Int), vs = [.ref p, .int num, .int den] ∧ H p = some (.ins C dx []) ∧ Sm 1300 num ∧ Sm 1300 den ∧
  (den ≤ 0 → E (.ref B) none H) ∧ (0 < den → ∀ H', RV C H' p (fr num den) → (∀ b o, H b = some o → b ≠ p → H' b = some o) → Q .non H')
def spBin (C : Addr) (f : Rat → Rat → Rat) : Sp := fun vs H Q _ => ∃ (a b : Addr) (q r : Rat), vs = [.ref a, .ref b] ∧ RV C H a q ∧ RV C H b r ∧ Sz 600 q ∧ Sz 600 r ∧
  ∀ (x : Addr) (H' : Hp), Same H H' → RV C H' x (f q r) → Q (.ref x) H'
def spTst (C : Addr) (f : Rat → Rat → Bool) : Sp := fun vs H Q _ => ∃ (a b : Addr) (q r : Rat), vs = [.ref a, .ref b] ∧ RV C H a q ∧ RV C H b r ∧ Sz 600 q ∧ Sz 600 r ∧ Q (.bl (f q r)) H
def Good0 (x : Bq) : Prop := 0 ≤ x.a ∧ 0 ≤ x.b ∧ 0 ≤ x.c ∧ ∀ l, x.lim = some l → 0 ≤ l
def spBInit (CB CR B : Addr) : Sp := fun vs H Q E => ∃ (p dx a b c : Addr) (x : Bq), vs = [.ref p, .ref a, .ref b, .ref c, lV x.lim] ∧ H p = some (.ins CB dx []) ∧ RV CR H a x.a ∧ RV CR H b x.b ∧ RV CR H c x.c ∧
  (¬ Good0 x → E (.ref B) none H) ∧ (Good0 x → ∀ H', BV CB CR H' p x → (∀ b o, H b = some o → b ≠ p → H' b = some o) → Q .non H')
def spBEq (CB CR : Addr) : Sp := fun vs H Q _ => ∃ (a b : Addr) (x y : Bq) (c : Bool), vs = [.ref a, .ref b] ∧ BV CB CR H a x ∧ BV CB CR H b y ∧ x.Ok 100 ∧ y.Ok 100 ∧ (c = true ↔ x = y) ∧ Q (.bl c) H
def spBAt (CB CR : Addr) : Sp := fun vs H Q _ => ∃ (a : Addr) (x : Bq) (q : Int), vs = [.ref a, .int q] ∧ BV CB CR H a x ∧ x.Ok 100 ∧ 0 ≤ q ∧ Sm 64 q ∧ ∀ (p : Addr) (H' : Hp), Same H H' → RV CR H' p (x.at q) → Q (.ref p) H'
def spBPlus (CB CR : Addr) : Sp := fun vs H Q _ => ∃ (a b : Addr) (x y : Bq), vs = [.ref a, .ref b] ∧ BV CB CR H a x ∧ BV CB CR H b y ∧ x.Ok 100 ∧ y.Ok 100 ∧ ∀ (p : Addr) (H' : Hp), Same H H' → BV CB CR H' p (x.plus y) → Q (.ref p) H'
def spBWithin (CB CR : Addr) : Sp := fun vs H Q _ => ∃ (a : Addr) (x : Bq) (k : Int), vs = [.ref a, .int k] ∧ BV CB CR H a x ∧ x.Ok 30 ∧ 0 ≤ k ∧ Sm 10 k ∧ ∀ (p : Addr) (H' : Hp), Same H H' → BV CB CR H' p (x.within k) → Q (.ref p) H'
def spPairs : Sp := fun vs H Q _ => ∃ q : Int, vs = [.int q] ∧ Sm 70 q ∧ Q (.int (pairsI q)) H
def spSmaller : Sp := fun vs H Q _ => ∃ x y : Option Int, vs = [lV x, lV y] ∧ Q (lV (lmin x y)) H
def spNothing (CB CR : Addr) : Sp := fun vs H Q _ => vs = [] ∧ ∀ (p : Addr) (H' : Hp), Same H H' → BV CB CR H' p Bq.zero → Q (.ref p) H'
structure Txt (K : PySem.W.Frag) (mg : Str → Option Value) where
  o_n : PySem.W.specialIn K (.builtin "object.__class__") "__get__" = some (some (.builtin "getset_descriptor.__get__"))
  o_t : PySem.W.takesIn K (.builtin "object.__class__") = some true
  C_Ratio : Addr
  g_Ratio : mg "Ratio" = some (.ref C_Ratio)
  cl_Ratio : Cls K C_Ratio
  sf_Ratio : PySem.W.selfFirst K C_Ratio = true
  na_Ratio_num : NoAttr K C_Ratio "num"
  na_Ratio_den : NoAttr K C_Ratio "den"
  ia_Ratio : PySem.W.findIn K (.ref C_Ratio) "__class__" = some (some (.builtin "object.__class__"))
  im_Ratio : PySem.W.mroIn K C_Ratio (.type "object") = some true
  ik_Ratio : PySem.W.kitOne K (.ref C_Ratio) (.ref C_Ratio) = some true
  C_Bound : Addr
  g_Bound : mg "Bound" = some (.ref C_Bound)
  cl_Bound : Cls K C_Bound
  sf_Bound : PySem.W.selfFirst K C_Bound = true
  na_Bound_flat : NoAttr K C_Bound "flat"
  na_Bound_first : NoAttr K C_Bound "first"
  na_Bound_more : NoAttr K C_Bound "more"
  na_Bound_limit : NoAttr K C_Bound "limit"
  ia_Bound : PySem.W.findIn K (.ref C_Bound) "__class__" = some (some (.builtin "object.__class__"))
  im_Bound : PySem.W.mroIn K C_Bound (.type "object") = some true
  ik_Bound : PySem.W.kitOne K (.ref C_Bound) (.ref C_Bound) = some true
  a_Ratio_init : Addr
  fd_Ratio_init : FuncData
  F_Ratio_init : FunD K "__init__" "Ratio.__init__" (defArgs s_Ratio_init) (defBody s_Ratio_init) (defScope s_Ratio_init) [.int 1] [] a_Ratio_init fd_Ratio_init
  ds0_Ratio_init : List Value
  dv0_Ratio_init : Vals [.int 1] ds0_Ratio_init
  db0_Ratio_init : L2.Binds K fd_Ratio_init ["self", "num", "den"] ds0_Ratio_init
  b_Ratio_init : L2.Binds K fd_Ratio_init ["self", "num", "den"] []
  k_Ratio_init : PySem.W.keepIn K (.ref a_Ratio_init) = true
  m_Ratio_init : Meth K C_Ratio "__init__" a_Ratio_init
  a_Ratio_add : Addr
  fd_Ratio_add : FuncData
  F_Ratio_add : Fun K "__add__" "Ratio.__add__" s_Ratio_add a_Ratio_add fd_Ratio_add
  b_Ratio_add : L2.Binds K fd_Ratio_add ["self", "other"] []
  k_Ratio_add : PySem.W.keepIn K (.ref a_Ratio_add) = true
  m_Ratio_add : Meth K C_Ratio "__add__" a_Ratio_add
  a_Ratio_mul : Addr
  fd_Ratio_mul : FuncData
  F_Ratio_mul : Fun K "__mul__" "Ratio.__mul__" s_Ratio_mul a_Ratio_mul fd_Ratio_mul
  b_Ratio_mul : L2.Binds K fd_Ratio_mul ["self", "other"] []
  k_Ratio_mul : PySem.W.keepIn K (.ref a_Ratio_mul) = true
  m_Ratio_mul : Meth K C_Ratio "__mul__" a_Ratio_mul
  a_Ratio_eq : Addr
  fd_Ratio_eq : FuncData
  F_Ratio_eq : Fun K "__eq__" "Ratio.__eq__" s_Ratio_eq a_Ratio_eq fd_Ratio_eq
  b_Ratio_eq : L2.Binds K fd_Ratio_eq ["self", "other"] []
  k_Ratio_eq : PySem.W.keepIn K (.ref a_Ratio_eq) = true
  m_Ratio_eq : Meth K C_Ratio "__eq__" a_Ratio_eq
  a_Ratio_below : Addr
  fd_Ratio_below : FuncData
  F_Ratio_below : Fun K "below" "Ratio.below" s_Ratio_below a_Ratio_below fd_Ratio_below
  b_Ratio_below : L2.Binds K fd_Ratio_below ["self", "other"] []
  k_Ratio_below : PySem.W.keepIn K (.ref a_Ratio_below) = true
  m_Ratio_below : Meth K C_Ratio "below" a_Ratio_below
  a_Bound_init : Addr
  fd_Bound_init : FuncData
  F_Bound_init : FunD K "__init__" "Bound.__init__" (defArgs s_Bound_init) (defBody s_Bound_init) (defScope s_Bound_init) [.non] [] a_Bound_init fd_Bound_init
  ds0_Bound_init : List Value
  dv0_Bound_init : Vals [.non] ds0_Bound_init
  db0_Bound_init : L2.Binds K fd_Bound_init ["self", "flat", "first", "more", "limit"] ds0_Bound_init
  b_Bound_init : L2.Binds K fd_Bound_init ["self", "flat", "first", "more", "limit"] []
  k_Bound_init : PySem.W.keepIn K (.ref a_Bound_init) = true
  m_Bound_init : Meth K C_Bound "__init__" a_Bound_init
  a_Bound_eq : Addr
  fd_Bound_eq : FuncData
  F_Bound_eq : Fun K "__eq__" "Bound.__eq__" s_Bound_eq a_Bound_eq fd_Bound_eq
  b_Bound_eq : L2.Binds K fd_Bound_eq ["self", "other"] []
  k_Bound_eq : PySem.W.keepIn K (.ref a_Bound_eq) = true
  m_Bound_eq : Meth K C_Bound "__eq__" a_Bound_eq
  a_Bound_at : Addr
  fd_Bound_at : FuncData
  F_Bound_at : Fun K "at" "Bound.at" s_Bound_at a_Bound_at fd_Bound_at
  b_Bound_at : L2.Binds K fd_Bound_at ["self", "calls"] []
  k_Bound_at : PySem.W.keepIn K (.ref a_Bound_at) = true
  m_Bound_at : Meth K C_Bound "at" a_Bound_at
  a_Bound_plus : Addr
  fd_Bound_plus : FuncData
  F_Bound_plus : Fun K "plus" "Bound.plus" s_Bound_plus a_Bound_plus fd_Bound_plus
  b_Bound_plus : L2.Binds K fd_Bound_plus ["self", "other"] []
  k_Bound_plus : PySem.W.keepIn K (.ref a_Bound_plus) = true
  m_Bound_plus : Meth K C_Bound "plus" a_Bound_plus
  a_Bound_within : Addr
  fd_Bound_within : FuncData
  F_Bound_within : Fun K "within" "Bound.within" s_Bound_within a_Bound_within fd_Bound_within
  b_Bound_within : L2.Binds K fd_Bound_within ["self", "asks"] []
  k_Bound_within : PySem.W.keepIn K (.ref a_Bound_within) = true
  m_Bound_within : Meth K C_Bound "within" a_Bound_within
  a_pairs : Addr
  fd_pairs : FuncData
  F_pairs : Fun K "pairs" "pairs" s_pairs a_pairs fd_pairs
  b_pairs : L2.Binds K fd_pairs ["many"] []
  k_pairs : PySem.W.keepIn K (.ref a_pairs) = true
  g_pairs : mg "pairs" = some (.ref a_pairs)
  a_smaller_limit : Addr
  fd_smaller_limit : FuncData
  F_smaller_limit : Fun K "smaller_limit" "smaller_limit" s_smaller_limit a_smaller_limit fd_smaller_limit
  b_smaller_limit : L2.Binds K fd_smaller_limit ["limit", "other"] []
  k_smaller_limit : PySem.W.keepIn K (.ref a_smaller_limit) = true
  g_smaller_limit : mg "smaller_limit" = some (.ref a_smaller_limit)
  a_nothing : Addr
  fd_nothing : FuncData
  F_nothing : Fun K "nothing" "nothing" s_nothing a_nothing fd_nothing
  b_nothing : L2.Binds K fd_nothing [] []
  k_nothing : PySem.W.keepIn K (.ref a_nothing) = true
  g_nothing : mg "nothing" = some (.ref a_nothing)
  a_law_cell : Addr
  fd_law_cell : FuncData
  F_law_cell : Fun K "_law_cell" "_law_cell" s_law_cell a_law_cell fd_law_cell
  b_law_cell : L2.Binds K fd_law_cell ["script", "k"] []
  k_law_cell : PySem.W.keepIn K (.ref a_law_cell) = true
  g_law_cell : mg "_law_cell" = some (.ref a_law_cell)
  a_law_row : Addr
  fd_law_row : FuncData
  F_law_row : Fun K "_law_row" "_law_row" s_law_row a_law_row fd_law_row
  b_law_row : L2.Binds K fd_law_row ["cell", "count", "size"] []
  k_law_row : PySem.W.keepIn K (.ref a_law_row) = true
  g_law_row : mg "_law_row" = some (.ref a_law_row)
  a_law_less : Addr
  fd_law_less : FuncData
  F_law_less : Fun K "_law_less" "_law_less" s_law_less a_law_less fd_law_less
  b_law_less : L2.Binds K fd_law_less ["num", "den"] []
  k_law_less : PySem.W.keepIn K (.ref a_law_less) = true
  g_law_less : mg "_law_less" = some (.ref a_law_less)
  a_law_plus : Addr
  fd_law_plus : FuncData
  F_law_plus : Fun K "_law_plus" "_law_plus" s_law_plus a_law_plus fd_law_plus
  b_law_plus : L2.Binds K fd_law_plus ["one", "other"] []
  k_law_plus : PySem.W.keepIn K (.ref a_law_plus) = true
  g_law_plus : mg "_law_plus" = some (.ref a_law_plus)
  a_law_times : Addr
  fd_law_times : FuncData
  F_law_times : Fun K "_law_times" "_law_times" s_law_times a_law_times fd_law_times
  b_law_times : L2.Binds K fd_law_times ["one", "other"] []
  k_law_times : PySem.W.keepIn K (.ref a_law_times) = true
  g_law_times : mg "_law_times" = some (.ref a_law_times)
  a_law_drawn : Addr
  fd_law_drawn : FuncData
  F_law_drawn : Fun K "_law_drawn" "_law_drawn" s_law_drawn a_law_drawn fd_law_drawn
  b_law_drawn : L2.Binds K fd_law_drawn ["cell"] []
  k_law_drawn : PySem.W.keepIn K (.ref a_law_drawn) = true
  g_law_drawn : mg "_law_drawn" = some (.ref a_law_drawn)
  a_law_made : Addr
  fd_law_made : FuncData
  F_law_made : Fun K "_law_made" "_law_made" s_law_made a_law_made fd_law_made
  b_law_made : L2.Binds K fd_law_made ["drawn"] []
  k_law_made : PySem.W.keepIn K (.ref a_law_made) = true
  g_law_made : mg "_law_made" = some (.ref a_law_made)
  a_law_at : Addr
  fd_law_at : FuncData
  F_law_at : Fun K "_law_at" "_law_at" s_law_at a_law_at fd_law_at
  b_law_at : L2.Binds K fd_law_at ["drawn", "calls"] []
  k_law_at : PySem.W.keepIn K (.ref a_law_at) = true
  g_law_at : mg "_law_at" = some (.ref a_law_at)
  a_law_plus_of : Addr
  fd_law_plus_of : FuncData
  F_law_plus_of : Fun K "_law_plus_of" "_law_plus_of" s_law_plus_of a_law_plus_of fd_law_plus_of
  b_law_plus_of : L2.Binds K fd_law_plus_of ["one", "other"] []
  k_law_plus_of : PySem.W.keepIn K (.ref a_law_plus_of) = true
  g_law_plus_of : mg "_law_plus_of" = some (.ref a_law_plus_of)
  a_law_within : Addr
  fd_law_within : FuncData
  F_law_within : Fun K "_law_within" "_law_within" s_law_within a_law_within fd_law_within
  b_law_within : L2.Binds K fd_law_within ["drawn", "asks"] []
  k_law_within : PySem.W.keepIn K (.ref a_law_within) = true
  g_law_within : mg "_law_within" = some (.ref a_law_within)
  a_law_is : Addr
  fd_law_is : FuncData
  F_law_is : Fun K "_law_is" "_law_is" s_law_is a_law_is fd_law_is
  b_law_is : L2.Binds K fd_law_is ["actual", "due", "wide"] []
  k_law_is : PySem.W.keepIn K (.ref a_law_is) = true
  g_law_is : mg "_law_is" = some (.ref a_law_is)
  a_law_refused : Addr
  fd_law_refused : FuncData
  F_law_refused : Fun K "_law_refused" "_law_refused" s_law_refused a_law_refused fd_law_refused
  b_law_refused : L2.Binds K fd_law_refused ["flat", "first", "more", "limit"] []
  k_law_refused : PySem.W.keepIn K (.ref a_law_refused) = true
  g_law_refused : mg "_law_refused" = some (.ref a_law_refused)
  a_law_told : Addr
  fd_law_told : FuncData
  F_law_told : Fun K "_law_told" "_law_told" s_law_told a_law_told fd_law_told
  b_law_told : L2.Binds K fd_law_told ["drawn"] []
  k_law_told : PySem.W.keepIn K (.ref a_law_told) = true
  g_law_told : mg "_law_told" = some (.ref a_law_told)
  a_law : Addr
  fd_law : FuncData
  F_law : Fun K "law" "law" s_law a_law fd_law
  b_law : L2.Binds K fd_law ["script"] []
  k_law : PySem.W.keepIn K (.ref a_law) = true
  g_law : mg "law" = some (.ref a_law)
  mk_Ratio : Mk K C_Ratio a_Ratio_init
  mk_Bound : Mk K C_Bound a_Bound_init
  C_BadBound : Addr
  g_BadBound : mg "BadBound" = some (.ref C_BadBound)
  kc_BadBound : PySem.W.keepIn K (.ref C_BadBound) = true
  xb_BadBound : PySem.W.subIn K (.ref C_BadBound) (.type "BaseException") = some true
  xt_BadBound : PySem.W.typeIn K (.ref C_BadBound) = some (.type "type")
  xd_BadBound : PySem.W.hasDictIn K C_BadBound = true
  x_BadBound : PySem.W.excIn K C_BadBound [.type "ValueError", .type "Exception", .type "BaseException", .type "object"] "ValueError.__new__" = true
  C_PlayError : Addr
  g_PlayError : mg "PlayError" = some (.ref C_PlayError)
  kc_PlayError : PySem.W.keepIn K (.ref C_PlayError) = true
  xb_PlayError : PySem.W.subIn K (.ref C_PlayError) (.type "BaseException") = some true
  xt_PlayError : PySem.W.typeIn K (.ref C_PlayError) = some (.type "type")
  xd_PlayError : PySem.W.hasDictIn K C_PlayError = true
  C_BadStep : Addr
  g_BadStep : mg "BadStep" = some (.ref C_BadStep)
  kc_BadStep : PySem.W.keepIn K (.ref C_BadStep) = true
  xb_BadStep : PySem.W.subIn K (.ref C_BadStep) (.type "BaseException") = some true
  xt_BadStep : PySem.W.typeIn K (.ref C_BadStep) = some (.type "type")
  xd_BadStep : PySem.W.hasDictIn K C_BadStep = true
  ec_BadBound : ExcC K C_BadBound
  z_len : mg "len" = none
  z_range : mg "range" = none
  z_isinstance : mg "isinstance" = none
  z_abs : mg "abs" = none
  z_int : mg "int" = none
  z_list : mg "list" = none
  z_min : mg "min" = none
  g_gcd : mg "gcd" = some (.builtin "math.gcd")
  sub_bp : PySem.W.subIn K (.ref C_BadBound) (.ref C_PlayError) = some true
  ki_b : PySem.W.kitOne K (.ref C_BadBound) (.ref C_BadBound) = some true
  ki_s : PySem.W.kitOne K (.ref C_BadBound) (.ref C_BadStep) = some false
  om_Bound : PySem.W.mroIn K C_Bound (.type "object") = some true
  ne_Bound : PySem.W.findIn K (.ref C_Bound) "__ne__" = some (some (.builtin "object.__ne__"))
section
variable {P : Program} {w : World} {K : PySem.W.Frag} {mg : Str → Option Value} {base : Heap}
theorem ok_init (T : Txt K mg) : FnOk P w K mg base (L2.CX P w) 1 T.a_Ratio_init T.fd_Ratio_init ["self", "num", "den"] (spInit T.C_Ratio T.C_BadBound) := by
  refine T.F_Ratio_init.ok sc_Ratio_init (fun vs H Q E h => ?_) (fun cdv A outer s H vs Q E hr h => ?_)
  · obtain ⟨p, dx, n, d, rfl, _⟩ := h
    rfl
  obtain ⟨p, dx, n, d, rfl, hp, hn, hd, kB, kG⟩ := h
  refine ⟨_, (pss_cons (ps_if (pt_cmpR op_le (pv 2) pe_int (nomark _))
      (pss_one (ps_raise rfl (takes_of rfl rfl rfl rfl) (pmk_own PySem.F.excBase_ValueError T.x_BadBound T.g_BadBound T.kc_BadBound (raises_own T.xb_BadBound T.xt_BadBound) rfl)))
      pss_nil)
    (pss_cons (ps_set (i := 3) sc_Ratio_init.nd rfl (Or.inl rfl) (pe_callBfun cr_gcd rfl T.g_gcd (pa_cons (pv 1) (pa_cons (pv 2) pa_nil))))
    (pss_cons (ps_fld (pv 0) (pe_op op_fdivW (pv 1) (pv 3)) rfl)
    (pss_one (ps_fld (pv 0) (pe_op op_fdivW (pv 2) (pv 3)) rfl))))), ?_⟩
  refine ⟨_, rfl, _, _, rfl, rfl, _, rfl, ?_⟩
  refine ite2 (fun c => ?_) (fun c => ?_)
  · exact kB (of_decide_eq_true c)
  have c' : 0 < d := by
    have := of_decide_eq_false (Bool.eq_false_iff.mpr c)
    omega
  have gp : (0 : Int) < ((Nat.gcd n.natAbs d.natAbs : Nat) : Int) := by
    have := gcd_pos (n := n) c'
    omega
  refine ⟨_, rfl, _, rfl, _, _, rfl, ?_⟩
  refine ⟨_, rfl, _, rfl, _, _, rfl, rfl, cdiv gp (sm_gcd c' hd), _, rfl, p, T.C_Ratio, dx, [], rfl, hp, T.cl_Ratio, T.na_Ratio_num, (by show 0 < 1000; decide), ?_⟩
  refine ⟨_, rfl, _, rfl, _, _, rfl, rfl, cdiv gp (sm_gcd c' hd), _, rfl, p, T.C_Ratio, dx, _, rfl, upd_same, T.cl_Ratio, T.na_Ratio_den, (by show 1 < 1000; decide), ?_⟩
  refine kG c' _ ⟨dx, ?_⟩ fun b o e hb => ?_
  · rw [upd_same]
    unfold rf
    rw [← red_num c', ← red_den c']
    rfl
  rw [upd_ne hb, upd_ne hb]
  exact e
theorem ok_add (T : Txt K mg) : FnOk P w K mg base CX0 3 T.a_Ratio_add T.fd_Ratio_add ["self", "other"] (spBin T.C_Ratio fun q r => q + r) := by
  have G_Ratio_init : FnOk P w K mg base (L2.CX P w) 1 T.a_Ratio_init T.fd_Ratio_init ["self", "num", "den"] (spInit T.C_Ratio T.C_BadBound) := ok_init T
  refine T.F_Ratio_add.ok sc_Ratio_add (fun vs H Q E h => ?_) (fun cdv A outer s H vs Q E hr h => ?_)
  · obtain ⟨a, b, q, r, rfl, _⟩ := h
    rfl
  obtain ⟨a, b, q, r, rfl, ⟨dx, ha⟩, ⟨dy, hb⟩, s1, s2, k⟩ := h
  refine ⟨_, (pss_one (ps_ret (pe_make T.mk_Ratio G_Ratio_init (hr.mono (by decide)) rfl T.g_Ratio T.b_Ratio_init .nil passL (pa_cons (pe_op op_add (pe_op op_mulW (pe_fld (pv 0) rfl) (pe_fld (pv 1) rfl)) (pe_op op_mulW (pe_fld (pv 1) rfl) (pe_fld (pv 0) rfl))) (pa_cons (pe_op op_mulW (pe_fld (pv 0) rfl) (pe_fld (pv 1) rfl)) pa_nil))))), ?_⟩
  have n1 := T.na_Ratio_num
  have n2 := T.na_Ratio_den
  refine ⟨_, rfl, a, _, dx, _, _, rfl, ha, T.cl_Ratio, n1, rf_num _, _, rfl, b, _, dy, _, _, rfl, hb, T.cl_Ratio, n2, rf_den _, _, _, rfl, rfl, cmul s1.n s2.d, ?_⟩
  refine ⟨_, rfl, b, _, dy, _, _, rfl, hb, T.cl_Ratio, n1, rf_num _, _, rfl, a, _, dx, _, _, rfl, ha, T.cl_Ratio, n2, rf_den _, _, _, rfl, rfl, cmul s2.n s1.d, ?_⟩
  refine ⟨_, _, rfl, rfl, ?_⟩
  refine ⟨_, rfl, a, _, dx, _, _, rfl, ha, T.cl_Ratio, n2, rf_den _, _, rfl, b, _, dy, _, _, rfl, hb, T.cl_Ratio, n2, rf_den _, _, _, rfl, rfl, cmul s1.d s2.d, ?_⟩
  intro x dz nx nz ne
  have s5 : Sm 1300 (q.num * r.den + r.num * q.den) := Sm.mono (add_lt2 (mul_lt2 s1.n s2.d) (mul_lt2 s2.n s1.d)) (by decide)
  have s6 : Sm 1300 ((q.den : Int) * r.den) := Sm.mono (mul_lt2 s1.d s2.d) (by decide)
  have hd := Int.mul_pos (den_pos q) (den_pos r)
  refine ⟨x, dz, _, _, rfl, upd_same, s5, s6, fun z => absurd hd (by omega), fun _ H' hR hk => ⟨rfl, k x H' (same_upd nx nz hk) ?_⟩⟩
  have e := fr_add (n := q.num) (n' := r.num) (den_pos q) (den_pos r)
  rw [fr_self, fr_self] at e
  show RV _ _ _ (q + r)
  rw [← e]
  exact hR
theorem ok_mul (T : Txt K mg) : FnOk P w K mg base CX0 3 T.a_Ratio_mul T.fd_Ratio_mul ["self", "other"] (spBin T.C_Ratio fun q r => q * r) := by
  have G_Ratio_init : FnOk P w K mg base (L2.CX P w) 1 T.a_Ratio_init T.fd_Ratio_init ["self", "num", "den"] (spInit T.C_Ratio T.C_BadBound) := ok_init T
  refine T.F_Ratio_mul.ok sc_Ratio_mul (fun vs H Q E h => ?_) (fun cdv A outer s H vs Q E hr h => ?_)
  · obtain ⟨a, b, q, r, rfl, _⟩ := h
    rfl
  obtain ⟨a, b, q, r, rfl, ⟨dx, ha⟩, ⟨dy, hb⟩, s1, s2, k⟩ := h
  refine ⟨_, (pss_one (ps_ret (pe_make T.mk_Ratio G_Ratio_init (hr.mono (by decide)) rfl T.g_Ratio T.b_Ratio_init .nil passL (pa_cons (pe_op op_mulW (pe_fld (pv 0) rfl) (pe_fld (pv 1) rfl)) (pa_cons (pe_op op_mulW (pe_fld (pv 0) rfl) (pe_fld (pv 1) rfl)) pa_nil))))), ?_⟩
  have n1 := T.na_Ratio_num
  have n2 := T.na_Ratio_den
  refine ⟨_, rfl, a, _, dx, _, _, rfl, ha, T.cl_Ratio, n1, rf_num _, _, rfl, b, _, dy, _, _, rfl, hb, T.cl_Ratio, n1, rf_num _, _, _, rfl, rfl, cmul s1.n s2.n, ?_⟩
  refine ⟨_, rfl, a, _, dx, _, _, rfl, ha, T.cl_Ratio, n2, rf_den _, _, rfl, b, _, dy, _, _, rfl, hb, T.cl_Ratio, n2, rf_den _, _, _, rfl, rfl, cmul s1.d s2.d, ?_⟩
  intro x dz nx nz ne
  have s5 : Sm 1300 (q.num * r.num) := Sm.mono (mul_lt2 s1.n s2.n) (by decide)
  have s6 : Sm 1300 ((q.den : Int) * r.den) := Sm.mono (mul_lt2 s1.d s2.d) (by decide)
  have hd := Int.mul_pos (den_pos q) (den_pos r)
  refine ⟨x, dz, _, _, rfl, upd_same, s5, s6, fun z => absurd hd (by omega), fun _ H' hR hk => ⟨rfl, k x H' (same_upd nx nz hk) ?_⟩⟩
  have e := fr_mul (n := q.num) (n' := r.num) (den_pos q) (den_pos r)
  rw [fr_self, fr_self] at e
  show RV _ _ _ (q * r)
  rw [← e]
  exact hR
theorem ok_below (T : Txt K mg) : FnOk P w K mg base CX0 1 T.a_Ratio_below T.fd_Ratio_below ["self", "other"] (spTst T.C_Ratio fun q r => decide (q < r)) := by
  refine T.F_Ratio_below.ok sc_Ratio_below (fun vs H Q E h => ?_) (fun cdv A outer s H vs Q E hr h => ?_)
  · obtain ⟨a, b, q, r, rfl, _⟩ := h
    rfl
  obtain ⟨a, b, q, r, rfl, ⟨dx, ha⟩, ⟨dy, hb⟩, s1, s2, k⟩ := h
  refine ⟨_, (pss_one (ps_ret (pe_cmpR op_lt (pe_op op_mulW (pe_fld (pv 0) rfl) (pe_fld (pv 1) rfl)) (pe_op op_mulW (pe_fld (pv 1) rfl) (pe_fld (pv 0) rfl)) (nomark _)))), ?_⟩
  have n1 := T.na_Ratio_num
  have n2 := T.na_Ratio_den
  refine ⟨_, rfl, a, _, dx, _, _, rfl, ha, T.cl_Ratio, n1, rf_num _, _, rfl, b, _, dy, _, _, rfl, hb, T.cl_Ratio, n2, rf_den _, _, _, rfl, rfl, cmul s1.n s2.d, ?_⟩
  refine ⟨_, rfl, b, _, dy, _, _, rfl, hb, T.cl_Ratio, n1, rf_num _, _, rfl, a, _, dx, _, _, rfl, ha, T.cl_Ratio, n2, rf_den _, _, _, rfl, rfl, cmul s2.n s1.d, ?_⟩
  dsimp only at k
  rw [decide_eq_decide.mpr (lt_cross q r)] at k
  exact ⟨_, _, rfl, rfl, k⟩
theorem ok_eq (T : Txt K mg) : FnOk P w K mg base CX0 1 T.a_Ratio_eq T.fd_Ratio_eq ["self", "other"] (spTst T.C_Ratio fun q r => decide (q = r)) := by
  refine T.F_Ratio_eq.ok sc_Ratio_eq (fun vs H Q E h => ?_) (fun cdv A outer s H vs Q E hr h => ?_)
  · obtain ⟨a, b, q, r, rfl, _⟩ := h
    rfl
  obtain ⟨a, b, q, r, rfl, ⟨dx, ha⟩, ⟨dy, hb⟩, s1, s2, k⟩ := h
  refine ⟨_, (pss_one (ps_ret (pe_and (pe_callB call_isi (by rfl) T.z_isinstance (by decide +kernel) (pa_cons (pv 1) (pa_cons (pe_glob (v := .ref T.C_Ratio) rfl T.g_Ratio rfl) pa_nil))) (pe_and (pe_cmpR op_eq (pe_fld (pv 0) rfl) (pe_fld (pv 1) rfl) (nomark _)) (pe_one (pe_cmpR op_eq (pe_fld (pv 0) rfl) (pe_fld (pv 1) rfl) (nomark _))))))), ?_⟩
  have n1 := T.na_Ratio_num
  have n2 := T.na_Ratio_den
  refine ⟨_, rfl, _, _, _, _, true, rfl, .own _, .base (.ins hb T.cl_Ratio T.ia_Ratio T.o_n T.o_t T.im_Ratio), T.ik_Ratio, true, rfl, ?_⟩
  refine iteT ?_
  refine ⟨_, rfl, a, _, dx, _, _, rfl, ha, T.cl_Ratio, n1, rf_num _, _, rfl, b, _, dy, _, _, rfl, hb, T.cl_Ratio, n1, rf_num _, rfl, _, rfl, ?_⟩
  dsimp only at k
  by_cases c : q.num = r.num
  · refine ite_yes (decide_eq_true (congrArg V.int c)) ?_
    refine ⟨_, rfl, a, _, dx, _, _, rfl, ha, T.cl_Ratio, n2, rf_den _, _, rfl, b, _, dy, _, _, rfl, hb, T.cl_Ratio, n2, rf_den _, rfl, ?_⟩
    have e : decide (q = r) = decide (V.int (q.den : Int) = V.int (r.den : Int)) := by
      refine decide_eq_decide.mpr ⟨fun z => by rw [z], fun z => (eq_parts q r).mpr ⟨c, ?_⟩⟩
      exact Int.ofNat.inj (V.int.inj z)
    rw [e] at k
    exact k
  · refine ite_no (fun z => c (V.int.inj (of_decide_eq_true z))) ?_
    have e : decide (q = r) = false := decide_eq_false fun z => c (by rw [z])
    rw [e] at k
    exact k
theorem ok_pairs (T : Txt K mg) : FnOk P w K mg base CX0 1 T.a_pairs T.fd_pairs ["many"] spPairs := by
  refine T.F_pairs.ok sc_pairs (fun vs H Q E h => ?_) (fun cdv A outer s H vs Q E hr h => ?_)
  · obtain ⟨q, rfl, _⟩ := h
    rfl
  obtain ⟨q, rfl, hq, k⟩ := h
  refine ⟨_, (pss_one (ps_ret (pe_op op_fdivW (pe_op op_mulW (pv 0) (pe_op op_sub (pv 0) pe_int)) pe_int))), ?_⟩
  have s2 : Sm 72 (q - 1) := Sm.mono (sub_lt2 hq (show (1 : Int).natAbs < 2 ^ 70 by decide)) (by decide)
  exact ⟨_, rfl, _, rfl, _, _, rfl, rfl, _, _, rfl, rfl, cmul hq s2, _, _, rfl, rfl, cdiv (k := 2) (by decide) (by decide), k⟩
theorem non_ne {l : Int} : ¬ (V.int l = V.non) := fun z => nomatch z
theorem ok_smaller (T : Txt K mg) : FnOk P w K mg base CX0 1 T.a_smaller_limit T.fd_smaller_limit ["limit", "other"] spSmaller := by
  refine T.F_smaller_limit.ok sc_smaller_limit (fun vs H Q E h => ?_) (fun cdv A outer s H vs Q E hr h => ?_)
  · obtain ⟨x, y, rfl, _⟩ := h
    rfl
  obtain ⟨x, y, rfl, k⟩ := h
  refine ⟨_, (pss_cons (ps_if (PW.pt (pw_or (pt_cmpR op_isN (pv 0) pe_non (nomark _)) (pw_or1 (pt_cmpR op_isN (pv 1) pe_non (nomark _)))))
      (pss_one (ps_ret (pe_ifExp (pt_cmpR op_isN (pv 0) pe_non (nomark _)) (pv 1) (pv 0))))
      pss_nil)
    (pss_one (ps_ret (pe_callB (call_min2 rfl) (by rfl) T.z_min (by decide +kernel) (pa_cons (pv 0) (pa_cons (pv 1) pa_nil)))))), ?_⟩
  cases x with
  | none =>
    refine ⟨_, rfl, rfl, _, rfl, ite_yes (decide_eq_true rfl) ?_⟩
    refine ⟨_, rfl, rfl, _, rfl, ite_yes (decide_eq_true rfl) ?_⟩
    exact ⟨_, rfl, k⟩
  | some l =>
    refine ⟨_, rfl, rfl, _, rfl, ite_no (fun z => non_ne (of_decide_eq_true z)) ?_⟩
    cases y with
    | none =>
      refine ⟨_, rfl, rfl, _, rfl, ite_yes (decide_eq_true rfl) ?_⟩
      refine ⟨_, rfl, rfl, _, rfl, ite_no (fun z => non_ne (of_decide_eq_true z)) ?_⟩
      exact ⟨_, rfl, k⟩
    | some m =>
      refine ⟨_, rfl, rfl, _, rfl, ite_no (fun z => non_ne (of_decide_eq_true z)) ?_⟩
      refine ⟨_, rfl, _, rfl, _, _, rfl, ?_⟩
      have e : lmin (some l) (some m) = some (if m < l then m else l) := by
        show some (min l m) = _
        congr 1
        split <;> omega
      rw [e] at k
      exact k
theorem ok_binit (T : Txt K mg) : FnOk P w K mg base (L2.CX P w) 1 T.a_Bound_init T.fd_Bound_init ["self", "flat", "first", "more", "limit"] (spBInit T.C_Bound T.C_Ratio T.C_BadBound) := by
  refine T.F_Bound_init.ok sc_Bound_init (fun vs H Q E h => ?_) (fun cdv A outer s H vs Q E hr h => ?_)
  · obtain ⟨p, dx, a, b, c, x, rfl, _⟩ := h
    rfl
  obtain ⟨p, dx, a, b, c, x, rfl, hp, ⟨da, ha⟩, ⟨db, hb⟩, ⟨dc, hc⟩, kB, kG⟩ := h
  refine ⟨_, (pss_cons (ps_if (PW.pt (pw_or (pt_cmpR op_lt (pe_fld (pv 1) rfl) pe_int (nomark _)) (pw_or (pt_cmpR op_lt (pe_fld (pv 2) rfl) pe_int (nomark _)) (pw_or1 (pt_cmpR op_lt (pe_fld (pv 3) rfl) pe_int (nomark _))))))
      (pss_one (ps_raise rfl (takes_of rfl rfl rfl rfl) (pmk_own PySem.F.excBase_ValueError T.x_BadBound T.g_BadBound T.kc_BadBound (raises_own T.xb_BadBound T.xt_BadBound) rfl)))
      pss_nil)
    (pss_cons (ps_if (PW.pt (pw_and (pt_cmpR op_notN (pv 4) pe_non (nomark _)) (pw_and1 (pt_cmpR op_lt (pv 4) pe_int (nomark _)))))
      (pss_one (ps_raise rfl (takes_of rfl rfl rfl rfl) (pmk_own PySem.F.excBase_ValueError T.x_BadBound T.g_BadBound T.kc_BadBound (raises_own T.xb_BadBound T.xt_BadBound) rfl)))
      pss_nil)
    (pss_cons (ps_fld (pv 0) (pv 1) rfl)
    (pss_cons (ps_fld (pv 0) (pv 2) rfl)
    (pss_cons (ps_fld (pv 0) (pv 3) rfl)
    (pss_one (ps_fld (pv 0) (pv 4) rfl))))))), ?_⟩
  have n1 := T.na_Ratio_num
  refine ⟨_, rfl, a, _, da, _, _, rfl, ha, T.cl_Ratio, n1, rf_num _, _, _, rfl, rfl, _, rfl, ite2 (fun z => ?_) (fun z1 => ?_)⟩
  · exact kB fun g => absurd g.1 (Rat.not_le.mpr (num_neg.mp (of_decide_eq_true z)))
  refine ⟨_, rfl, b, _, db, _, _, rfl, hb, T.cl_Ratio, n1, rf_num _, _, _, rfl, rfl, _, rfl, ite2 (fun z => ?_) (fun z2 => ?_)⟩
  · exact kB fun g => absurd g.2.1 (Rat.not_le.mpr (num_neg.mp (of_decide_eq_true z)))
  refine ⟨_, rfl, c, _, dc, _, _, rfl, hc, T.cl_Ratio, n1, rf_num _, _, _, rfl, rfl, _, rfl, ite2 (fun z => ?_) (fun z3 => ?_)⟩
  · exact kB fun g => absurd g.2.2.1 (Rat.not_le.mpr (num_neg.mp (of_decide_eq_true z)))
  have nn : ∀ q : Rat, ¬ decide (q.num < 0) = true → 0 ≤ q := fun q z => Rat.not_lt.mp fun y => z (decide_eq_true (num_neg.mpr y))
  have g1 := nn _ z1
  have g2 := nn _ z2
  have g3 := nn _ z3
  have fin : Good0 x → ∀ (Hn : Hp), Hn = upd (upd (upd (upd H p (.ins T.C_Bound dx (putF "flat" (.ref a) []))) p (.ins T.C_Bound dx (putF "first" (.ref b) (putF "flat" (.ref a) [])))) p (.ins T.C_Bound dx (putF "more" (.ref c) (putF "first" (.ref b) (putF "flat" (.ref a) []))))) p (.ins T.C_Bound dx (bf a b c (lV x.lim))) → Q .non Hn := by
    intro g Hn e
    subst e
    have np : ∀ {y dy fs}, H y = some (HO.ins T.C_Ratio dy (rf fs)) → y ≠ p := fun {y dy fs} hy z => by
      rw [z, hp] at hy
      have e1 := (HO.ins.inj (Option.some.inj hy)).2.2
      have e2 := rf_num fs
      rw [← e1] at e2
      exact absurd e2 (by simp)
    refine kG g _ ⟨dx, a, b, c, upd_same, ⟨da, ?_⟩, ⟨db, ?_⟩, ⟨dc, ?_⟩⟩ fun y o e hy => ?_
    · rw [upd_ne (np ha), upd_ne (np ha), upd_ne (np ha), upd_ne (np ha)]; exact ha
    · rw [upd_ne (np hb), upd_ne (np hb), upd_ne (np hb), upd_ne (np hb)]; exact hb
    · rw [upd_ne (np hc), upd_ne (np hc), upd_ne (np hc), upd_ne (np hc)]; exact hc
    · rw [upd_ne hy, upd_ne hy, upd_ne hy, upd_ne hy]; exact e
  cases hl : x.lim with
  | none =>
    refine ⟨_, rfl, rfl, _, rfl, ite_no (by simp [lV]) ?_⟩
    have g : Good0 x := ⟨g1, g2, g3, fun l z => by rw [hl] at z; cases z⟩
    exact ⟨_, rfl, _, rfl, p, T.C_Bound, dx, [], rfl, hp, T.cl_Bound, T.na_Bound_flat, (by show 0 < 1000; decide),
      _, rfl, _, rfl, p, T.C_Bound, dx, _, rfl, upd_same, T.cl_Bound, T.na_Bound_first, (by show 1 < 1000; decide),
      _, rfl, _, rfl, p, T.C_Bound, dx, _, rfl, upd_same, T.cl_Bound, T.na_Bound_more, (by show 2 < 1000; decide),
      _, rfl, _, rfl, p, T.C_Bound, dx, _, rfl, upd_same, T.cl_Bound, T.na_Bound_limit, (by show 3 < 1000; decide), fin g _ (by rw [hl]; rfl)⟩
  | some l =>
    refine ⟨_, rfl, rfl, _, rfl, ite_yes (by simp [lV]) ?_⟩
    refine ⟨_, rfl, _, _, rfl, rfl, _, rfl, ite2 (fun z => ?_) (fun z => ?_)⟩
    · exact kB fun g => absurd (g.2.2.2 l hl) (by have := of_decide_eq_true z; omega)
    · have z' : 0 ≤ l := by
        have := of_decide_eq_false (Bool.eq_false_iff.mpr z)
        omega
      have g : Good0 x := ⟨g1, g2, g3, fun m y => by rw [hl] at y; cases y; exact z'⟩
      exact ⟨_, rfl, _, rfl, p, T.C_Bound, dx, [], rfl, hp, T.cl_Bound, T.na_Bound_flat, (by show 0 < 1000; decide),
      _, rfl, _, rfl, p, T.C_Bound, dx, _, rfl, upd_same, T.cl_Bound, T.na_Bound_first, (by show 1 < 1000; decide),
      _, rfl, _, rfl, p, T.C_Bound, dx, _, rfl, upd_same, T.cl_Bound, T.na_Bound_more, (by show 2 < 1000; decide),
      _, rfl, _, rfl, p, T.C_Bound, dx, _, rfl, upd_same, T.cl_Bound, T.na_Bound_limit, (by show 3 < 1000; decide), fin g _ (by rw [hl]; rfl)⟩
end
end Toy
set_option Elab.async false
set_option linter.all false
set_option maxRecDepth 100000
set_option maxHeartbeats 4000000
namespace Toy
open PySem L2 Mine
theorem BV.mk' {CB CR : Addr} {H : Hp} {p dx a b c : Addr} {x : Bq} (h : H p = some (.ins CB dx (bf a b c (lV x.lim)))) (h1 : RV CR H a x.a) (h2 : RV CR H b x.b) (h3 : RV CR H c x.c) : BV CB CR H p x := ⟨dx, a, b, c, h, h1, h2, h3⟩
theorem fr_int' (n : Int) : fr n 1 = (n : Rat) := fr_int n
theorem good_of {n : Nat} {x : Bq} (o : x.Ok n) : Good0 x := ⟨o.a0, o.b0, o.c0, o.l0⟩
theorem bq_eq {x y : Bq} : x = y ↔ x.a = y.a ∧ x.b = y.b ∧ x.c = y.c ∧ x.lim = y.lim := ⟨fun h => by subst h; exact ⟨rfl, rfl, rfl, rfl⟩, fun ⟨h1, h2, h3, h4⟩ => by cases x; cases y; cases h1; cases h2; cases h3; cases h4; rfl⟩
theorem lV_inj {x y : Option Int} : lV x = lV y ↔ x = y := by
  cases x <;> cases y <;> simp [lV]
theorem ifLim {lim : Option Int} {A B : Prop} (h1 : lim = none → B) (h2 : ∀ l, lim = some l → A) : if (!decide (lV lim = V.non)) = true then A else B := by
  cases lim with
  | none => exact ite_no (by simp [lV]) (h1 rfl)
  | some l => exact ite_yes (by simp [lV]) (h2 l rfl)
section
variable {P : Program} {w : World} {K : PySem.W.Frag} {mg : Str → Option Value} {base : Heap}
theorem ok_nothing (T : Txt K mg) : FnOk P w K mg base CX0 3 T.a_nothing T.fd_nothing [] (spNothing T.C_Bound T.C_Ratio) := by
  have G_Ratio_init : FnOk P w K mg base (L2.CX P w) 1 T.a_Ratio_init T.fd_Ratio_init ["self", "num", "den"] (spInit T.C_Ratio T.C_BadBound) := ok_init T
  have G_Bound_init : FnOk P w K mg base (L2.CX P w) 1 T.a_Bound_init T.fd_Bound_init ["self", "flat", "first", "more", "limit"] (spBInit T.C_Bound T.C_Ratio T.C_BadBound) := ok_binit T
  refine T.F_nothing.ok sc_nothing (fun vs H Q E h => ?_) (fun cdv A outer s H vs Q E hr h => ?_)
  · obtain ⟨rfl, _⟩ := h
    rfl
  obtain ⟨rfl, k⟩ := h
  refine ⟨_, (pss_one (ps_ret (pe_make T.mk_Bound G_Bound_init (hr.mono (by decide)) rfl T.g_Bound T.db0_Bound_init T.dv0_Bound_init passL (pa_cons (pe_make T.mk_Ratio G_Ratio_init (hr.mono (by decide)) rfl T.g_Ratio T.db0_Ratio_init T.dv0_Ratio_init passL (pa_cons pe_int pa_nil)) (pa_cons (pe_make T.mk_Ratio G_Ratio_init (hr.mono (by decide)) rfl T.g_Ratio T.db0_Ratio_init T.dv0_Ratio_init passL (pa_cons pe_int pa_nil)) (pa_cons (pe_make T.mk_Ratio G_Ratio_init (hr.mono (by decide)) rfl T.g_Ratio T.db0_Ratio_init T.dv0_Ratio_init passL (pa_cons pe_int pa_nil)) pa_nil)))))), ?_⟩
  intro x1 d1 nx1 nd1 ne1
  refine ⟨x1, d1, 0, 1, rfl, upd_same, by decide, by decide, fun z => absurd z (by decide), fun _ H1 R1 k1 => ⟨rfl, ?_⟩⟩
  have m1 := same_upd nx1 nd1 k1
  intro x2 d2 nx2 nd2 ne2
  refine ⟨x2, d2, 0, 1, rfl, upd_same, by decide, by decide, fun z => absurd z (by decide), fun _ H2 R2 k2 => ⟨rfl, ?_⟩⟩
  have m2 := same_upd nx2 nd2 k2
  intro x3 d3 nx3 nd3 ne3
  refine ⟨x3, d3, 0, 1, rfl, upd_same, by decide, by decide, fun z => absurd z (by decide), fun _ H3 R3 k3 => ⟨rfl, ?_⟩⟩
  have m3 := same_upd nx3 nd3 k3
  have e0 : fr 0 1 = 0 := fr_int 0
  rw [e0] at R1 R2 R3
  intro x4 d4 nx4 nd4 ne4
  have m4 := same_make nx4 nd4 (C := T.C_Bound)
  refine ⟨x4, d4, x1, x2, x3, Bq.zero, rfl, upd_same, (R1.same (m2.trans m3)).same m4, (R2.same m3).same m4, R3.same m4, fun z => absurd ⟨Rat.le_refl, Rat.le_refl, Rat.le_refl, fun l y => nomatch y⟩ z, fun _ H4 B4 k4 => ⟨rfl, ?_⟩⟩
  exact k x4 H4 (m1.trans (m2.trans (m3.trans (same_upd nx4 nd4 k4)))) B4
theorem ok_beq (T : Txt K mg) : FnOk P w K mg base CX0 2 T.a_Bound_eq T.fd_Bound_eq ["self", "other"] (spBEq T.C_Bound T.C_Ratio) := by
  have G_Ratio_eq : FnOk P w K mg base CX0 1 T.a_Ratio_eq T.fd_Ratio_eq ["self", "other"] (spTst T.C_Ratio fun q r => decide (q = r)) := ok_eq T
  refine T.F_Bound_eq.ok sc_Bound_eq (fun vs H Q E h => ?_) (fun cdv A outer s H vs Q E hr h => ?_)
  · obtain ⟨a, b, x, y, c, rfl, _⟩ := h
    rfl
  obtain ⟨p, q, x, y, c, rfl, ⟨dx, a1, b1, c1, hp, A1, B1, C1⟩, ⟨dy, a2, b2, c2, hq, A2, B2, C2⟩, ox, oy, hc, k⟩ := h
  refine ⟨_, (pss_one (ps_ret (pe_and (pe_callB call_isi (by rfl) T.z_isinstance (by decide +kernel) (pa_cons (pv 1) (pa_cons (pe_glob (v := .ref T.C_Bound) rfl T.g_Bound rfl) pa_nil))) (pe_and (pe_cmpR (op_ownEq G_Ratio_eq (hr.mono (by decide)) T.b_Ratio_eq pass0 T.m_Ratio_eq.at_ T.m_Ratio_eq.fn) (pe_fld (pv 0) rfl) (pe_fld (pv 1) rfl) (nomark _)) (pe_and (pe_cmpR (op_ownEq G_Ratio_eq (hr.mono (by decide)) T.b_Ratio_eq pass0 T.m_Ratio_eq.at_ T.m_Ratio_eq.fn) (pe_fld (pv 0) rfl) (pe_fld (pv 1) rfl) (nomark _)) (pe_and (pe_cmpR (op_ownEq G_Ratio_eq (hr.mono (by decide)) T.b_Ratio_eq pass0 T.m_Ratio_eq.at_ T.m_Ratio_eq.fn) (pe_fld (pv 0) rfl) (pe_fld (pv 1) rfl) (nomark _)) (pe_one (pe_cmpR op_eq (pe_fld (pv 0) rfl) (pe_fld (pv 1) rfl) (nomark _))))))))), ?_⟩
  have no : ¬ x = y → Q (.bl false) H := fun z => by
    have e : c = false := by
      cases c with
      | false => rfl
      | true => exact absurd (hc.mp rfl) z
    rw [← e]
    exact k
  refine ⟨_, rfl, _, _, _, _, true, rfl, .own _, .base (.ins hq T.cl_Bound T.ia_Bound T.o_n T.o_t T.im_Bound), T.ik_Bound, true, rfl, iteT ?_⟩
  obtain ⟨da1, ha1⟩ := id A1
  obtain ⟨da2, ha2⟩ := id A2
  refine ⟨_, rfl, p, _, dx, _, _, rfl, hp, T.cl_Bound, T.na_Bound_flat, bf_flat _ _ _ _, _, rfl, q, _, dy, _, _, rfl, hq, T.cl_Bound, T.na_Bound_flat, bf_flat _ _ _ _, ?_⟩
  refine ⟨a1, a2, da1, da2, _, _, rfl, rfl, ha1, ha2, a1, a2, _, _, rfl, A1, A2, ox.az.mono (by decide), oy.az.mono (by decide), _, rfl, ite2 (fun z1 => ?_) (fun z => no fun e => z (decide_eq_true (bq_eq.mp e).1))⟩
  obtain ⟨db1, hb1⟩ := id B1
  obtain ⟨db2, hb2⟩ := id B2
  refine ⟨_, rfl, p, _, dx, _, _, rfl, hp, T.cl_Bound, T.na_Bound_first, bf_first _ _ _ _, _, rfl, q, _, dy, _, _, rfl, hq, T.cl_Bound, T.na_Bound_first, bf_first _ _ _ _, ?_⟩
  refine ⟨b1, b2, db1, db2, _, _, rfl, rfl, hb1, hb2, b1, b2, _, _, rfl, B1, B2, ox.bz.mono (by decide), oy.bz.mono (by decide), _, rfl, ite2 (fun z2 => ?_) (fun z => no fun e => z (decide_eq_true (bq_eq.mp e).2.1))⟩
  obtain ⟨dc1, hc1⟩ := id C1
  obtain ⟨dc2, hc2⟩ := id C2
  refine ⟨_, rfl, p, _, dx, _, _, rfl, hp, T.cl_Bound, T.na_Bound_more, bf_more _ _ _ _, _, rfl, q, _, dy, _, _, rfl, hq, T.cl_Bound, T.na_Bound_more, bf_more _ _ _ _, ?_⟩
  refine ⟨c1, c2, dc1, dc2, _, _, rfl, rfl, hc1, hc2, c1, c2, _, _, rfl, C1, C2, ox.cz.mono (by decide), oy.cz.mono (by decide), _, rfl, ite2 (fun z3 => ?_) (fun z => no fun e => z (decide_eq_true (bq_eq.mp e).2.2.1))⟩
  refine ⟨_, rfl, p, _, dx, _, _, rfl, hp, T.cl_Bound, T.na_Bound_limit, bf_limit _ _ _ _, _, rfl, q, _, dy, _, _, rfl, hq, T.cl_Bound, T.na_Bound_limit, bf_limit _ _ _ _, ?_⟩
  have e : c = decide (lV x.lim = lV y.lim) := by
    refine Bool.eq_iff_iff.mpr ?_
    rw [hc, decide_eq_true_iff, lV_inj, bq_eq]
    exact ⟨fun z => z.2.2.2, fun z => ⟨of_decide_eq_true z1, of_decide_eq_true z2, of_decide_eq_true z3, z⟩⟩
  rw [e] at k
  cases hx : x.lim <;> cases hy : y.lim <;> rw [hx, hy] at k <;> exact ⟨rfl, k⟩
theorem ok_bat (T : Txt K mg) : FnOk P w K mg base CX0 5 T.a_Bound_at T.fd_Bound_at ["self", "calls"] (spBAt T.C_Bound T.C_Ratio) := by
  have G_Ratio_init : FnOk P w K mg base (L2.CX P w) 1 T.a_Ratio_init T.fd_Ratio_init ["self", "num", "den"] (spInit T.C_Ratio T.C_BadBound) := ok_init T
  have G_Ratio_add : FnOk P w K mg base CX0 3 T.a_Ratio_add T.fd_Ratio_add ["self", "other"] (spBin T.C_Ratio fun q r => q + r) := ok_add T
  have G_Ratio_mul : FnOk P w K mg base CX0 3 T.a_Ratio_mul T.fd_Ratio_mul ["self", "other"] (spBin T.C_Ratio fun q r => q * r) := ok_mul T
  have G_Ratio_below : FnOk P w K mg base CX0 1 T.a_Ratio_below T.fd_Ratio_below ["self", "other"] (spTst T.C_Ratio fun q r => decide (q < r)) := ok_below T
  have G_pairs : FnOk P w K mg base CX0 1 T.a_pairs T.fd_pairs ["many"] spPairs := ok_pairs T
  refine T.F_Bound_at.ok sc_Bound_at (fun vs H Q E h => ?_) (fun cdv A outer s H vs Q E hr h => ?_)
  · obtain ⟨a, x, q, rfl, _⟩ := h
    rfl
  obtain ⟨p, x, q, rfl, ⟨dx, a1, b1, c1, hp, A1, B1, C1⟩, ox, q0, sq, k⟩ := h
  refine ⟨_, (pss_cons (ps_if (pt_cmpR op_eq (pv 1) pe_int (nomark _))
      (pss_one (ps_ret (pe_make T.mk_Ratio G_Ratio_init (hr.mono (by decide)) rfl T.g_Ratio T.db0_Ratio_init T.dv0_Ratio_init passL (pa_cons pe_int pa_nil))))
      pss_nil)
    (pss_cons (ps_if (PW.pt (pw_and (pt_cmpR op_notN (pe_fld (pv 0) rfl) pe_non (nomark _)) (pw_and1 (pt_cmpR op_gt (pv 1) (pe_fld (pv 0) rfl) (nomark _)))))
      (pss_one (ps_ret (pe_make T.mk_Ratio G_Ratio_init (hr.mono (by decide)) rfl T.g_Ratio T.db0_Ratio_init T.dv0_Ratio_init passL (pa_cons pe_int pa_nil))))
      pss_nil)
    (pss_cons (ps_set (i := 2) sc_Bound_at.nd rfl (Or.inl rfl) (pe_op (op_own G_Ratio_add (hr.mono (by decide)) T.b_Ratio_add pass0 T.sf_Ratio T.m_Ratio_add.at_ T.m_Ratio_add.fn) (pe_op (op_own G_Ratio_add (hr.mono (by decide)) T.b_Ratio_add pass0 T.sf_Ratio T.m_Ratio_add.at_ T.m_Ratio_add.fn) (pe_fld (pv 0) rfl) (pe_op (op_own G_Ratio_mul (hr.mono (by decide)) T.b_Ratio_mul pass0 T.sf_Ratio T.m_Ratio_mul.at_ T.m_Ratio_mul.fn) (pe_fld (pv 0) rfl) (pe_make T.mk_Ratio G_Ratio_init (hr.mono (by decide)) rfl T.g_Ratio T.db0_Ratio_init T.dv0_Ratio_init passL (pa_cons (pv 1) pa_nil)))) (pe_op (op_own G_Ratio_mul (hr.mono (by decide)) T.b_Ratio_mul pass0 T.sf_Ratio T.m_Ratio_mul.at_ T.m_Ratio_mul.fn) (pe_fld (pv 0) rfl) (pe_make T.mk_Ratio G_Ratio_init (hr.mono (by decide)) rfl T.g_Ratio T.db0_Ratio_init T.dv0_Ratio_init passL (pa_cons (pe_call G_pairs (hr.mono (by decide)) rfl T.g_pairs T.k_pairs T.b_pairs .nil pass0 (pa_cons (pv 1) pa_nil)) pa_nil)))))
    (pss_one (ps_ret (pe_ifExp (pt_val (pe_meth (pv 2) T.cl_Ratio T.m_Ratio_below G_Ratio_below (hr.mono (by decide)) T.b_Ratio_below .nil pass0 (pa_cons (pe_make T.mk_Ratio G_Ratio_init (hr.mono (by decide)) rfl T.g_Ratio T.db0_Ratio_init T.dv0_Ratio_init passL (pa_cons pe_int pa_nil)) pa_nil))) (pv 2) (pe_make T.mk_Ratio G_Ratio_init (hr.mono (by decide)) rfl T.g_Ratio T.db0_Ratio_init T.dv0_Ratio_init passL (pa_cons pe_int pa_nil)))))))), ?_⟩
  refine ⟨_, rfl, rfl, _, rfl, ite2 (fun z => ?_) (fun z => ?_)⟩
  · have z' : q = 0 := V.int.inj (of_decide_eq_true z)
    intro x1 d1 nx1 nd1 ne1
    refine ⟨x1, d1, 0, 1, rfl, upd_same, by decide, by decide, fun z => absurd z (by decide), fun _ H1 R1 k1 => ⟨rfl, k x1 H1 (same_upd nx1 nd1 k1) ?_⟩⟩
    have e : x.at q = fr 0 1 := by rw [z']; exact (fr_int 0).symm
    rw [e]
    exact R1
  have z' : q ≠ 0 := fun y => z (decide_eq_true (congrArg V.int y))
  refine (fun (rest : over x.lim q = false → _) => ⟨_, rfl, p, _, dx, _, _, rfl, hp, T.cl_Bound, T.na_Bound_limit, bf_limit _ _ _ _, rfl, _, rfl, ifLim (fun e => iteF (rest (by rw [e]; rfl))) (fun l hl => ?_)⟩) ?_
  rotate_left
  · have hp' : H p = some (.ins T.C_Bound dx (bf a1 b1 c1 (.int l))) := by rw [hp, hl]; rfl
    refine ⟨_, rfl, _, rfl, p, _, dx, _, _, rfl, hp', T.cl_Bound, T.na_Bound_limit, bf_limit _ _ _ _, _, _, rfl, rfl, _, rfl, ite2 (fun z => ?_) (fun z => ?_)⟩
    · have ov : over x.lim q = true := by
        rw [hl]
        have := of_decide_eq_true z
        exact decide_eq_true (by omega)
      intro x1 d1 nx1 nd1 ne1
      refine ⟨x1, d1, 1, 1, rfl, upd_same, by decide, by decide, fun z => absurd z (by decide), fun _ H1 R1 k1 => ⟨rfl, k x1 H1 (same_upd nx1 nd1 k1) ?_⟩⟩
      have e : x.at q = fr 1 1 := by
        unfold Bq.at
        rw [if_neg z', if_pos ov]
        exact (fr_int 1).symm
      rw [e]
      exact R1
    · refine rest ?_
      rw [hl]
      have := of_decide_eq_false (Bool.eq_false_iff.mpr z)
      exact decide_eq_false (by omega)
  intro ov
  obtain ⟨s1, s2, s3, s4⟩ := Bq.sz_sum ox q0 sq
  have sqi : Sz 64 (q : Rat) := sz_int sq
  have spi : Sz 128 ((pairsI q : Int) : Rat) := sz_int (pairs_lt q0 sq)
  refine ⟨_, rfl, p, _, dx, _, _, rfl, hp, T.cl_Bound, T.na_Bound_flat, bf_flat _ _ _ _, _, rfl, p, _, dx, _, _, rfl, hp, T.cl_Bound, T.na_Bound_first, bf_first _ _ _ _, _, rfl, fun x1 d1 nx1 nd1 ne1 => ?_⟩
  refine ⟨x1, d1, q, 1, rfl, upd_same, Sm.mono sq (by decide), by decide, fun z => absurd z (by decide), fun _ H1 R1 k1 => ⟨rfl, ?_⟩⟩
  have m1 := same_upd nx1 nd1 k1
  rw [fr_int'] at R1
  obtain ⟨e1, he1⟩ := id R1
  obtain ⟨e2, he2⟩ := B1.same m1
  refine ⟨b1, x1, e2, e1, _, _, rfl, rfl, he2, he1, b1, x1, _, _, rfl, B1.same m1, R1, ox.bz.mono (by decide), sqi.mono (by decide), fun y2 H2 m2 R2 => ?_⟩
  have m12 := m1.trans m2
  obtain ⟨e3, he3⟩ := id R2
  obtain ⟨e4, he4⟩ := A1.same m12
  refine ⟨a1, y2, e4, e3, _, _, rfl, rfl, he4, he3, a1, y2, _, _, rfl, A1.same m12, R2, ox.az.mono (by decide), s1.mono (by decide), fun y3 H3 m3 R3 => ?_⟩
  have m13 := m12.trans m3
  refine ⟨_, rfl, p, _, dx, _, _, rfl, m13 _ _ hp, T.cl_Bound, T.na_Bound_more, bf_more _ _ _ _, _, rfl, q, rfl, Sm.mono sq (by decide), fun x4 d4 nx4 nd4 ne4 => ?_⟩
  refine ⟨x4, d4, pairsI q, 1, rfl, upd_same, Sm.mono (pairs_lt q0 sq) (by decide), by decide, fun z => absurd z (by decide), fun _ H4 R4 k4 => ⟨rfl, ?_⟩⟩
  have m4 := same_upd nx4 nd4 k4
  have m14 := m13.trans m4
  rw [fr_int'] at R4
  obtain ⟨e5, he5⟩ := id R4
  obtain ⟨e6, he6⟩ := C1.same m14
  refine ⟨c1, x4, e6, e5, _, _, rfl, rfl, he6, he5, c1, x4, _, _, rfl, C1.same m14, R4, ox.cz.mono (by decide), spi.mono (by decide), fun y5 H5 m5 R5 => ?_⟩
  have R3' := R3.same (m4.trans m5)
  obtain ⟨e7, he7⟩ := id R5
  obtain ⟨e8, he8⟩ := id R3'
  refine ⟨y3, y5, e8, e7, _, _, rfl, rfl, he8, he7, y3, y5, _, _, rfl, R3', R5, s2.mono (by decide), s3.mono (by decide), fun y6 H6 m6 R6 => ?_⟩
  have m16 : Same H H6 := m14.trans (m5.trans m6)
  have R6' : RV T.C_Ratio H6 y6 (x.sum q) := R6
  obtain ⟨e9, he9⟩ := id R6'
  refine ⟨_, rfl, y6, e9, _, rfl, he9, rf_no _ (by decide +kernel) (by decide +kernel), fun x7 d7 nx7 nd7 ne7 => ?_⟩
  refine ⟨x7, d7, 1, 1, rfl, upd_same, by decide, by decide, fun z => absurd z (by decide), fun _ H7 R7 k7 => ⟨rfl, ?_⟩⟩
  have m7 := same_upd nx7 nd7 k7
  rw [fr_int'] at R7
  have e1' : ((1 : Int) : Rat) = 1 := rfl
  rw [e1'] at R7
  refine ⟨y6, x7, _, _, rfl, R6'.same m7, R7, s4.mono (by decide), sz_one.mono (by decide), _, rfl, ite2 (fun z => ?_) (fun z => ?_)⟩
  · have z9 := of_decide_eq_true z
    refine ⟨_, rfl, k y6 H7 (m16.trans m7) ?_⟩
    have e : x.at q = x.sum q := by
      unfold Bq.at
      rw [if_neg z', if_neg (by rw [ov]; exact Bool.false_ne_true), if_pos z9]
    rw [e]
    exact R6'.same m7
  · have z9 := of_decide_eq_false (Bool.eq_false_iff.mpr z)
    intro x8 d8 nx8 nd8 ne8
    refine ⟨x8, d8, 1, 1, rfl, upd_same, by decide, by decide, fun z => absurd z (by decide), fun _ H8 R8 k8 => ⟨rfl, k x8 H8 (m16.trans (m7.trans (same_upd nx8 nd8 k8))) ?_⟩⟩
    have e : x.at q = fr 1 1 := by
      unfold Bq.at
      rw [if_neg z', if_neg (by rw [ov]; exact Bool.false_ne_true), if_neg z9]
      exact (fr_int 1).symm
    rw [e]
    exact R8
theorem ok_bplus (T : Txt K mg) : FnOk P w K mg base CX0 5 T.a_Bound_plus T.fd_Bound_plus ["self", "other"] (spBPlus T.C_Bound T.C_Ratio) := by
  have G_Bound_init : FnOk P w K mg base (L2.CX P w) 1 T.a_Bound_init T.fd_Bound_init ["self", "flat", "first", "more", "limit"] (spBInit T.C_Bound T.C_Ratio T.C_BadBound) := ok_binit T
  have G_Ratio_add : FnOk P w K mg base CX0 3 T.a_Ratio_add T.fd_Ratio_add ["self", "other"] (spBin T.C_Ratio fun q r => q + r) := ok_add T
  have G_smaller_limit : FnOk P w K mg base CX0 1 T.a_smaller_limit T.fd_smaller_limit ["limit", "other"] spSmaller := ok_smaller T
  refine T.F_Bound_plus.ok sc_Bound_plus (fun vs H Q E h => ?_) (fun cdv A outer s H vs Q E hr h => ?_)
  · obtain ⟨a, b, x, y, rfl, _⟩ := h
    rfl
  obtain ⟨p, q, x, y, rfl, ⟨dx, a1, b1, c1, hp, A1, B1, C1⟩, ⟨dy, a2, b2, c2, hq, A2, B2, C2⟩, ox, oy, k⟩ := h
  refine ⟨_, (pss_cons (ps_set (i := 2) sc_Bound_plus.nd rfl (Or.inl rfl) (pe_call G_smaller_limit (hr.mono (by decide)) rfl T.g_smaller_limit T.k_smaller_limit T.b_smaller_limit .nil pass0 (pa_cons (pe_fld (pv 0) rfl) (pa_cons (pe_fld (pv 1) rfl) pa_nil))))
    (pss_one (ps_ret (pe_make T.mk_Bound G_Bound_init (hr.mono (by decide)) rfl T.g_Bound T.b_Bound_init .nil passL (pa_cons (pe_op (op_own G_Ratio_add (hr.mono (by decide)) T.b_Ratio_add pass0 T.sf_Ratio T.m_Ratio_add.at_ T.m_Ratio_add.fn) (pe_fld (pv 0) rfl) (pe_fld (pv 1) rfl)) (pa_cons (pe_op (op_own G_Ratio_add (hr.mono (by decide)) T.b_Ratio_add pass0 T.sf_Ratio T.m_Ratio_add.at_ T.m_Ratio_add.fn) (pe_fld (pv 0) rfl) (pe_fld (pv 1) rfl)) (pa_cons (pe_op (op_own G_Ratio_add (hr.mono (by decide)) T.b_Ratio_add pass0 T.sf_Ratio T.m_Ratio_add.at_ T.m_Ratio_add.fn) (pe_fld (pv 0) rfl) (pe_fld (pv 1) rfl)) (pa_cons (pv 2) pa_nil)))))))), ?_⟩
  refine ⟨_, rfl, p, _, dx, _, _, rfl, hp, T.cl_Bound, T.na_Bound_limit, bf_limit _ _ _ _, _, rfl, q, _, dy, _, _, rfl, hq, T.cl_Bound, T.na_Bound_limit, bf_limit _ _ _ _, x.lim, y.lim, rfl, ?_⟩
  refine ⟨_, rfl, p, _, dx, _, _, rfl, hp, T.cl_Bound, T.na_Bound_flat, bf_flat _ _ _ _, _, rfl, q, _, dy, _, _, rfl, hq, T.cl_Bound, T.na_Bound_flat, bf_flat _ _ _ _, ?_⟩
  obtain ⟨e1, he1⟩ := id A1
  obtain ⟨e2, he2⟩ := id A2
  refine ⟨a1, a2, e1, e2, _, _, rfl, rfl, he1, he2, a1, a2, _, _, rfl, A1, A2, ox.az.mono (by decide), oy.az.mono (by decide), fun y1 H1 m1 R1 => ?_⟩
  refine ⟨_, rfl, p, _, dx, _, _, rfl, m1 _ _ hp, T.cl_Bound, T.na_Bound_first, bf_first _ _ _ _, _, rfl, q, _, dy, _, _, rfl, m1 _ _ hq, T.cl_Bound, T.na_Bound_first, bf_first _ _ _ _, ?_⟩
  obtain ⟨e3, he3⟩ := B1.same m1
  obtain ⟨e4, he4⟩ := B2.same m1
  refine ⟨b1, b2, e3, e4, _, _, rfl, rfl, he3, he4, b1, b2, _, _, rfl, B1.same m1, B2.same m1, ox.bz.mono (by decide), oy.bz.mono (by decide), fun y2 H2 m2 R2 => ?_⟩
  have m12 := m1.trans m2
  refine ⟨_, rfl, p, _, dx, _, _, rfl, m12 _ _ hp, T.cl_Bound, T.na_Bound_more, bf_more _ _ _ _, _, rfl, q, _, dy, _, _, rfl, m12 _ _ hq, T.cl_Bound, T.na_Bound_more, bf_more _ _ _ _, ?_⟩
  obtain ⟨e5, he5⟩ := C1.same m12
  obtain ⟨e6, he6⟩ := C2.same m12
  refine ⟨c1, c2, e5, e6, _, _, rfl, rfl, he5, he6, c1, c2, _, _, rfl, C1.same m12, C2.same m12, ox.cz.mono (by decide), oy.cz.mono (by decide), fun y3 H3 m3 R3 => ?_⟩
  refine ⟨_, rfl, fun x4 d4 nx4 nd4 ne4 => ?_⟩
  have m4 := same_make nx4 nd4 (C := T.C_Bound)
  have g : Good0 (x.plus y) := good_of (Bq.plus_ok ox oy)
  refine ⟨x4, d4, y1, y2, y3, x.plus y, rfl, upd_same, (R1.same (m2.trans m3)).same m4, (R2.same m3).same m4, R3.same m4, fun z => absurd g z, fun _ H4 B4 k4 => ⟨rfl, ?_⟩⟩
  exact k x4 H4 (m12.trans (m3.trans (same_upd nx4 nd4 k4))) B4
theorem ok_bwithin (T : Txt K mg) : FnOk P w K mg base CX0 5 T.a_Bound_within T.fd_Bound_within ["self", "asks"] (spBWithin T.C_Bound T.C_Ratio) := by
  have G_Ratio_init : FnOk P w K mg base (L2.CX P w) 1 T.a_Ratio_init T.fd_Ratio_init ["self", "num", "den"] (spInit T.C_Ratio T.C_BadBound) := ok_init T
  have G_Bound_init : FnOk P w K mg base (L2.CX P w) 1 T.a_Bound_init T.fd_Bound_init ["self", "flat", "first", "more", "limit"] (spBInit T.C_Bound T.C_Ratio T.C_BadBound) := ok_binit T
  have G_Ratio_add : FnOk P w K mg base CX0 3 T.a_Ratio_add T.fd_Ratio_add ["self", "other"] (spBin T.C_Ratio fun q r => q + r) := ok_add T
  have G_Ratio_mul : FnOk P w K mg base CX0 3 T.a_Ratio_mul T.fd_Ratio_mul ["self", "other"] (spBin T.C_Ratio fun q r => q * r) := ok_mul T
  have G_pairs : FnOk P w K mg base CX0 1 T.a_pairs T.fd_pairs ["many"] spPairs := ok_pairs T
  have G_nothing : FnOk P w K mg base CX0 3 T.a_nothing T.fd_nothing [] (spNothing T.C_Bound T.C_Ratio) := ok_nothing T
  refine T.F_Bound_within.ok sc_Bound_within (fun vs H Q E h => ?_) (fun cdv A outer s H vs Q E hr h => ?_)
  · obtain ⟨a, x, n, rfl, _⟩ := h
    rfl
  obtain ⟨p, x, n, rfl, ⟨dx, a1, b1, c1, hp, A1, B1, C1⟩, ox, n0, sn, k⟩ := h
  refine ⟨_, (pss_cons (ps_if (pt_cmpR op_eq (pv 1) pe_int (nomark _))
      (pss_one (ps_ret (pe_call0 G_nothing (hr.mono (by decide)) rfl T.g_nothing T.k_nothing T.b_nothing .nil pass0)))
      pss_nil)
    (pss_cons (ps_set (i := 2) sc_Bound_within.nd rfl (Or.inl rfl) (pe_op (op_own G_Ratio_add (hr.mono (by decide)) T.b_Ratio_add pass0 T.sf_Ratio T.m_Ratio_add.at_ T.m_Ratio_add.fn) (pe_op (op_own G_Ratio_mul (hr.mono (by decide)) T.b_Ratio_mul pass0 T.sf_Ratio T.m_Ratio_mul.at_ T.m_Ratio_mul.fn) (pe_fld (pv 0) rfl) (pe_make T.mk_Ratio G_Ratio_init (hr.mono (by decide)) rfl T.g_Ratio T.db0_Ratio_init T.dv0_Ratio_init passL (pa_cons (pv 1) pa_nil))) (pe_op (op_own G_Ratio_mul (hr.mono (by decide)) T.b_Ratio_mul pass0 T.sf_Ratio T.m_Ratio_mul.at_ T.m_Ratio_mul.fn) (pe_fld (pv 0) rfl) (pe_make T.mk_Ratio G_Ratio_init (hr.mono (by decide)) rfl T.g_Ratio T.db0_Ratio_init T.dv0_Ratio_init passL (pa_cons (pe_call G_pairs (hr.mono (by decide)) rfl T.g_pairs T.k_pairs T.b_pairs .nil pass0 (pa_cons (pv 1) pa_nil)) pa_nil)))))
    (pss_cons (ps_set (i := 3) sc_Bound_within.nd rfl (Or.inl rfl) (pe_ifExp (pt_cmpR op_isN (pe_fld (pv 0) rfl) pe_non (nomark _)) pe_non (pe_op op_fdivW (pe_fld (pv 0) rfl) (pv 1))))
    (pss_one (ps_ret (pe_make T.mk_Bound G_Bound_init (hr.mono (by decide)) rfl T.g_Bound T.b_Bound_init .nil passL (pa_cons (pe_fld (pv 0) rfl) (pa_cons (pv 2) (pa_cons (pe_op (op_own G_Ratio_mul (hr.mono (by decide)) T.b_Ratio_mul pass0 T.sf_Ratio T.m_Ratio_mul.at_ T.m_Ratio_mul.fn) (pe_fld (pv 0) rfl) (pe_make T.mk_Ratio G_Ratio_init (hr.mono (by decide)) rfl T.g_Ratio T.db0_Ratio_init T.dv0_Ratio_init passL (pa_cons (pe_op op_mulW (pv 1) (pv 1)) pa_nil))) (pa_cons (pv 3) pa_nil)))))))))), ?_⟩
  refine ⟨_, rfl, rfl, _, rfl, ite2 (fun z => ?_) (fun z => ?_)⟩
  · have z' : n = 0 := V.int.inj (of_decide_eq_true z)
    refine ⟨rfl, fun y H1 m1 B => k y H1 m1 ?_⟩
    rw [z']
    exact B
  have z' : n ≠ 0 := fun y => z (decide_eq_true (congrArg V.int y))
  have n1 : 0 < n := by omega
  have sni : Sz 10 (n : Rat) := sz_int sn
  have spi : Sz 20 ((pairsI n : Int) : Rat) := sz_int (pairs_lt n0 sn)
  have skk : Sz 20 ((n * n : Int) : Rat) := sz_int (mul_lt2 sn sn)
  refine ⟨_, rfl, p, _, dx, _, _, rfl, hp, T.cl_Bound, T.na_Bound_first, bf_first _ _ _ _, _, rfl, fun x1 d1 nx1 nd1 ne1 => ?_⟩
  refine ⟨x1, d1, n, 1, rfl, upd_same, Sm.mono sn (by decide), by decide, fun z => absurd z (by decide), fun _ H1 R1 k1 => ⟨rfl, ?_⟩⟩
  have m1 := same_upd nx1 nd1 k1
  rw [fr_int'] at R1
  obtain ⟨e1, he1⟩ := id R1
  obtain ⟨e2, he2⟩ := B1.same m1
  refine ⟨b1, x1, e2, e1, _, _, rfl, rfl, he2, he1, b1, x1, _, _, rfl, B1.same m1, R1, ox.bz.mono (by decide), sni.mono (by decide), fun y2 H2 m2 R2 => ?_⟩
  have m12 := m1.trans m2
  refine ⟨_, rfl, p, _, dx, _, _, rfl, m12 _ _ hp, T.cl_Bound, T.na_Bound_more, bf_more _ _ _ _, _, rfl, n, rfl, Sm.mono sn (by decide), fun x3 d3 nx3 nd3 ne3 => ?_⟩
  refine ⟨x3, d3, pairsI n, 1, rfl, upd_same, Sm.mono (pairs_lt n0 sn) (by decide), by decide, fun z => absurd z (by decide), fun _ H3 R3 k3 => ⟨rfl, ?_⟩⟩
  have m3 := same_upd nx3 nd3 k3
  have m13 := m12.trans m3
  rw [fr_int'] at R3
  obtain ⟨e3, he3⟩ := id R3
  obtain ⟨e4, he4⟩ := C1.same m13
  refine ⟨c1, x3, e4, e3, _, _, rfl, rfl, he4, he3, c1, x3, _, _, rfl, C1.same m13, R3, ox.cz.mono (by decide), spi.mono (by decide), fun y4 H4 m4 R4 => ?_⟩
  have R2' := R2.same (m3.trans m4)
  obtain ⟨e5, he5⟩ := id R4
  obtain ⟨e6, he6⟩ := id R2'
  refine ⟨y2, y4, e6, e5, _, _, rfl, rfl, he6, he5, y2, y4, _, _, rfl, R2', R4, (sz_mul ox.bz sni).mono (by decide), (sz_mul ox.cz spi).mono (by decide), fun y5 H5 m5 R5 => ?_⟩
  have m15 : Same H H5 := m13.trans (m4.trans m5)
  have hp5 := m15 _ _ hp
  refine ⟨_, rfl, p, _, dx, _, _, rfl, hp5, T.cl_Bound, T.na_Bound_limit, bf_limit _ _ _ _, rfl, _, rfl, ?_⟩
  cases hl : x.lim with
  | none =>
    refine ite_yes (by simp [lV]) ?_
    have el : V.non = lV (x.lim.map (· / n)) := by rw [hl]; rfl
    refine ⟨_, rfl, p, _, dx, _, _, rfl, hp5, T.cl_Bound, T.na_Bound_flat, bf_flat _ _ _ _, _, rfl, _, rfl, p, _, dx, _, _, rfl, hp5, T.cl_Bound, T.na_Bound_more, bf_more _ _ _ _, ?_⟩
    refine ⟨_, rfl, _, rfl, _, _, rfl, rfl, cmul sn sn, fun x6 d6 nx6 nd6 ne6 => ?_⟩
    refine ⟨x6, d6, n * n, 1, rfl, upd_same, Sm.mono (mul_lt2 sn sn) (by decide), by decide, fun z => absurd z (by decide), fun _ H6 R6 k6 => ⟨rfl, ?_⟩⟩
    have m6 := same_upd nx6 nd6 k6
    rw [fr_int'] at R6
    have m16 := m15.trans m6
    obtain ⟨e7, he7⟩ := id R6
    obtain ⟨e8, he8⟩ := C1.same m16
    refine ⟨c1, x6, e8, e7, _, _, rfl, rfl, he8, he7, c1, x6, _, _, rfl, C1.same m16, R6, ox.cz.mono (by decide), skk.mono (by decide), fun y7 H7 m7 R7 => ?_⟩
    refine ⟨_, rfl, fun x8 d8 nx8 nd8 ne8 => ?_⟩
    have m8 := same_make nx8 nd8 (C := T.C_Bound)
    have ew : x.within n = ⟨x.a, x.b * (n : Rat) + x.c * ((pairsI n : Int) : Rat), x.c * ((n * n : Int) : Rat), x.lim.map (· / n)⟩ := by unfold Bq.within; rw [if_neg z']
    have g : Good0 (x.within n) := good_of (Bq.within_ok ox n0 sn)
    rw [ew] at g
    refine ⟨x8, d8, a1, y5, y7, ⟨x.a, x.b * (n : Rat) + x.c * ((pairsI n : Int) : Rat), x.c * ((n * n : Int) : Rat), x.lim.map (· / n)⟩, by show _ = [V.ref x8, V.ref a1, V.ref y5, V.ref y7, lV (x.lim.map (· / n))]; rw [← el]; rfl, upd_same, ((A1.same m16).same m7).same m8, ((R5.same m6).same m7).same m8, R7.same m8, fun z => absurd g z, fun _ H8 B8 k8 => ⟨rfl, ?_⟩⟩
    refine k x8 H8 (m16.trans (m7.trans (same_upd nx8 nd8 k8))) ?_
    rw [ew]
    exact B8
  | some l =>
    refine ite_no (by simp [lV]) ?_
    have hp' : H5 p = some (.ins T.C_Bound dx (bf a1 b1 c1 (.int l))) := by rw [hp5, hl]; rfl
    refine ⟨_, rfl, p, _, dx, _, _, rfl, hp', T.cl_Bound, T.na_Bound_limit, bf_limit _ _ _ _, _, rfl, _, _, rfl, rfl, cdiv n1 sn, ?_⟩
    have el : V.int (l / n) = lV (x.lim.map (· / n)) := by rw [hl]; rfl
    refine ⟨_, rfl, p, _, dx, _, _, rfl, hp5, T.cl_Bound, T.na_Bound_flat, bf_flat _ _ _ _, _, rfl, _, rfl, p, _, dx, _, _, rfl, hp5, T.cl_Bound, T.na_Bound_more, bf_more _ _ _ _, ?_⟩
    refine ⟨_, rfl, _, rfl, _, _, rfl, rfl, cmul sn sn, fun x6 d6 nx6 nd6 ne6 => ?_⟩
    refine ⟨x6, d6, n * n, 1, rfl, upd_same, Sm.mono (mul_lt2 sn sn) (by decide), by decide, fun z => absurd z (by decide), fun _ H6 R6 k6 => ⟨rfl, ?_⟩⟩
    have m6 := same_upd nx6 nd6 k6
    rw [fr_int'] at R6
    have m16 := m15.trans m6
    obtain ⟨e7, he7⟩ := id R6
    obtain ⟨e8, he8⟩ := C1.same m16
    refine ⟨c1, x6, e8, e7, _, _, rfl, rfl, he8, he7, c1, x6, _, _, rfl, C1.same m16, R6, ox.cz.mono (by decide), skk.mono (by decide), fun y7 H7 m7 R7 => ?_⟩
    refine ⟨_, rfl, fun x8 d8 nx8 nd8 ne8 => ?_⟩
    have m8 := same_make nx8 nd8 (C := T.C_Bound)
    have ew : x.within n = ⟨x.a, x.b * (n : Rat) + x.c * ((pairsI n : Int) : Rat), x.c * ((n * n : Int) : Rat), x.lim.map (· / n)⟩ := by unfold Bq.within; rw [if_neg z']
    have g : Good0 (x.within n) := good_of (Bq.within_ok ox n0 sn)
    rw [ew] at g
    refine ⟨x8, d8, a1, y5, y7, ⟨x.a, x.b * (n : Rat) + x.c * ((pairsI n : Int) : Rat), x.c * ((n * n : Int) : Rat), x.lim.map (· / n)⟩, by show _ = [V.ref x8, V.ref a1, V.ref y5, V.ref y7, lV (x.lim.map (· / n))]; rw [← el]; rfl, upd_same, ((A1.same m16).same m7).same m8, ((R5.same m6).same m7).same m8, R7.same m8, fun z => absurd g z, fun _ H8 B8 k8 => ⟨rfl, ?_⟩⟩
    refine k x8 H8 (m16.trans (m7.trans (same_upd nx8 nd8 k8))) ?_
    rw [ew]
    exact B8
end
end Toy
set_option Elab.async false
set_option linter.all false
set_option maxRecDepth 100000
set_option maxHeartbeats 4000000
namespace Toy
open PySem L2 Mine
open Gm (ixlK ixtK)
/-! ### lists that are made of new objects -/
def Keep (H H' : Hp) : Prop := ∀ b o, H b = some o → (∀ xs, o ≠ .lst xs) → H' b = some o
theorem Same.keep {H H' : Hp} (s : Same H H') : Keep H H' := fun b o e _ => s b o e
theorem keep_lst {H : Hp} {D : Addr} {vs : List V} (h : H D = some (.lst vs)) (o : HO) : Keep H (upd H D o) := fun b u e n => by
  have : b ≠ D := fun z => by rw [z, h] at e; exact n vs (Option.some.inj e).symm
  rw [upd_ne this]
  exact e
structure It (R : Hp → Addr → Nat → Prop) (H0 H : Hp) (D : Addr) (vs : List V) : Prop where
  s : Same H0 H
  f : H0 D = none
  l : H D = some (.lst vs)
  e : ∀ j v, vs[j]? = some v → ∃ a, v = .ref a ∧ R H a j
def Mon (R : Hp → Addr → Nat → Prop) : Prop := ∀ H H' a j, Keep H H' → R H a j → R H' a j
section
variable {R : Hp → Addr → Nat → Prop} {H0 H H' : Hp} {D : Addr} {vs : List V}
theorem It.start (h : H0 D = none) : It R H0 (upd H0 D (.lst [])) D [] := ⟨same_new h _, h, upd_same, fun j v e => by simp at e⟩
theorem It.grow (m : Mon R) (a : It R H0 H D vs) (e : Same H H') : It R H0 H' D vs := ⟨a.s.trans e, a.f, e _ _ a.l, fun j v z => let ⟨p, ep, r⟩ := a.e j v z; ⟨p, ep, m _ _ _ _ (Same.keep e) r⟩⟩
theorem It.add (m : Mon R) (a : It R H0 H D vs) {p : Addr} (r : R H p vs.length) : It R H0 (upd H D (.lst (vs ++ [.ref p]))) D (vs ++ [.ref p]) := by
  have kp := keep_lst a.l (.lst (vs ++ [V.ref p]))
  refine ⟨fun b o e => by rw [upd_ne (ne_of_none e a.f)]; exact a.s _ _ e, a.f, upd_same, fun j v z => ?_⟩
  rw [List.getElem?_append] at z
  split at z
  · obtain ⟨q, eq, r'⟩ := a.e j v z
    exact ⟨q, eq, m _ _ _ _ kp r'⟩
  · rename_i h
    have ej : j = vs.length := by
      have := (List.getElem?_eq_some_iff.mp z).1
      simp at this
      omega
    subst ej
    simp at z
    exact ⟨p, z.symm, m _ _ _ _ kp r⟩
theorem three_of {vs : List V} (h : vs.length = 3) : ∃ a b c, vs = [a, b, c] := by
  match vs, h with
  | [a, b, c], _ => exact ⟨a, b, c, rfl⟩
end
/-! ### the law's data -/
def Bq.sel (x : Bq) : Nat → Rat
  | 0 => x.a
  | 1 => x.b
  | _ => x.c
/-- a pair of the value q -/
def PV (H : Hp) (p : Addr) (k : Nat) (q : Rat) : Prop := ∃ n d : Int, H p = some (.tup [.int n, .int d]) ∧ 0 < d ∧ Sm k n ∧ Sm k d ∧ fr n d = q
theorem PV.keep {H H' : Hp} {p : Addr} {k : Nat} {q : Rat} (h : PV H p k q) (e : Keep H H') : PV H' p k q := let ⟨n, d, a, r⟩ := h; ⟨n, d, e _ _ a (fun _ z => nomatch z), r⟩
theorem PV.same {H H' : Hp} {p : Addr} {k : Nat} {q : Rat} (h : PV H p k q) (e : Same H H') : PV H' p k q := h.keep (Same.keep e)
theorem PV.mono {H : Hp} {p : Addr} {j k : Nat} {q : Rat} (h : PV H p j q) (e : j ≤ k) : PV H p k q := let ⟨n, d, a, b, c, r, z⟩ := h; ⟨n, d, a, b, c.mono e, r.mono e, z⟩
theorem PV.sz {H : Hp} {p : Addr} {k : Nat} {q : Rat} (h : PV H p k q) : Sz k q := by
  obtain ⟨n, d, _, h1, h2, h3, rfl⟩ := h
  exact sz_fr h1 h2 h3
theorem pv_red {H : Hp} {p : Addr} {k : Nat} {q : Rat} (h : H p = some (.tup [.int q.num, .int (q.den : Int)])) (s : Sz k q) : PV H p k q := ⟨_, _, h, den_pos q, s.n, s.d, fr_self q⟩
def DV (H : Hp) (p : Addr) (k : Nat) (x : Bq) : Prop := ∃ l a b c, H p = some (.tup [.ref l, lV x.lim]) ∧ H l = some (.lst [.ref a, .ref b, .ref c]) ∧ PV H a k x.a ∧ PV H b k x.b ∧ PV H c k x.c
theorem DV.same {H H' : Hp} {p : Addr} {k : Nat} {x : Bq} (h : DV H p k x) (s : Same H H') : DV H' p k x := let ⟨l, a, b, c, h1, h2, h3, h4, h5⟩ := h; ⟨l, a, b, c, s _ _ h1, s _ _ h2, h3.same s, h4.same s, h5.same s⟩
theorem DV.mono {H : Hp} {p : Addr} {j k : Nat} {x : Bq} (h : DV H p j x) (e : j ≤ k) : DV H p k x := let ⟨l, a, b, c, h1, h2, h3, h4, h5⟩ := h; ⟨l, a, b, c, h1, h2, h3.mono e, h4.mono e, h5.mono e⟩
theorem sel3 {H : Hp} {a b c : Addr} {k : Nat} {x : Bq} (h1 : PV H a k x.a) (h2 : PV H b k x.b) (h3 : PV H c k x.c) {i : Nat} {v : V} (e : ([.ref a, .ref b, .ref c] : List V)[i]? = some v) : ∃ p, v = .ref p ∧ PV H p k (Bq.sel x i) := by
  match i, e with
  | 0, e => cases e; exact ⟨a, rfl, h1⟩
  | 1, e => cases e; exact ⟨b, rfl, h2⟩
  | 2, e => cases e; exact ⟨c, rfl, h3⟩
theorem dig_at {ns : List Int} {size : Int} (h : ∀ x ∈ ns, 0 ≤ x ∧ x < size) {k : Int} (h0 : 0 ≤ k) (h1 : k < ns.length) : ∃ d : Int, (0 ≤ d ∧ d < size) ∧ atI (ns.map V.int) k = some (.int d) := by
  have hk : k.toNat < ns.length := by omega
  refine ⟨ns[k.toNat], h _ (List.getElem_mem hk), ?_⟩
  exact at_of (j := k.toNat) (by omega) (by rw [List.getElem?_map, List.getElem?_eq_getElem hk] <;> rfl)
/-! ### the promises of the law's parts -/
def spCell (K : PySem.W.Frag) : Sp := fun vs H Q _ => ∃ (a : Addr) (ns : List Int) (k : Int), vs = [.ref a, .int k] ∧ SqL K H a (ns.map V.int) ∧ 0 ≤ k ∧ ∀ v : Int, Q (.int v) H
def spRow : Sp := fun vs H Q _ => ∃ (cell count size : Int), vs = [.int cell, .int count, .int size] ∧ 0 ≤ count ∧ count ≤ 1000 ∧ 0 < size ∧ size.natAbs < 2 ^ 100 ∧
  ∀ (p : Addr) (ns : List Int) (H' : Hp), Same H H' → H' p = some (.lst (ns.map V.int)) → ns.length = count.toNat → (∀ x ∈ ns, 0 ≤ x ∧ x < size) → Q (.ref p) H'
def RedAt (H : Hp) (p : Addr) (q : Rat) : Prop := H p = some (.tup [.int q.num, .int (q.den : Int)])
def spLess : Sp := fun vs H Q _ => ∃ n d : Int, vs = [.int n, .int d] ∧ 0 < d ∧ Sm 600 n ∧ Sm 600 d ∧ ∀ (p : Addr) (H' : Hp), Same H H' → RedAt H' p (fr n d) → Q (.ref p) H'
def spPair2 (f : Rat → Rat → Rat) : Sp := fun vs H Q _ => ∃ (a b : Addr) (q r : Rat), vs = [.ref a, .ref b] ∧ PV H a 290 q ∧ PV H b 290 r ∧ ∀ (p : Addr) (H' : Hp), Same H H' → RedAt H' p (f q r) → Q (.ref p) H'
def spDrawn : Sp := fun vs H Q _ => ∃ cell : Int, vs = [.int cell] ∧ ∀ (p : Addr) (x : Bq) (H' : Hp), Same H H' → DV H' p 30 x → x.Ok 30 → Q (.ref p) H'
def spMade (CB CR : Addr) : Sp := fun vs H Q _ => ∃ (a : Addr) (x : Bq), vs = [.ref a] ∧ DV H a 100 x ∧ x.Ok 100 ∧ ∀ (p : Addr) (H' : Hp), Same H H' → BV CB CR H' p x → Q (.ref p) H'
def spLAt : Sp := fun vs H Q _ => ∃ (a : Addr) (x : Bq) (q : Int), vs = [.ref a, .int q] ∧ DV H a 100 x ∧ x.Ok 100 ∧ 0 ≤ q ∧ Sm 64 q ∧ ∀ (p : Addr) (H' : Hp), Same H H' → RedAt H' p (x.at q) → Q (.ref p) H'
def spPlusOf : Sp := fun vs H Q _ => ∃ (a b : Addr) (x y : Bq), vs = [.ref a, .ref b] ∧ DV H a 30 x ∧ DV H b 30 y ∧ x.Ok 30 ∧ y.Ok 30 ∧ ∀ (p : Addr) (H' : Hp), Same H H' → DV H' p 100 (x.plus y) → Q (.ref p) H'
def spLWithin : Sp := fun vs H Q _ => ∃ (a : Addr) (x : Bq) (k : Int), vs = [.ref a, .int k] ∧ DV H a 30 x ∧ x.Ok 30 ∧ 0 ≤ k ∧ Sm 10 k ∧ ∀ (p : Addr) (H' : Hp), Same H H' → DV H' p 100 (x.within k) → Q (.ref p) H'
def spIs (CB CR : Addr) : Sp := fun vs H Q _ => ∃ (a b : Addr) (x : Bq) (wide : Int), vs = [.ref a, .ref b, .int wide] ∧ BV CB CR H a x ∧ DV H b 100 x ∧ x.Ok 100 ∧ 0 ≤ wide ∧ Sm 30 wide ∧ ∀ H', Same H H' → Q (.bl true) H'
def spRefused (CR : Addr) : Sp := fun vs H Q _ => ∃ (a b c : Addr) (x : Bq), vs = [.ref a, .ref b, .ref c, lV x.lim] ∧ RV CR H a x.a ∧ RV CR H b x.b ∧ RV CR H c x.c ∧ ¬ Good0 x ∧ ∀ H', Same H H' → Q (.bl true) H'
def ToldAt (H : Hp) (p : Addr) (x : Bq) : Prop := ∃ l a b c, H p = some (.tup [.ref l, lV x.lim]) ∧ H l = some (.lst [.ref a, .ref b, .ref c]) ∧ RedAt H a x.a ∧ RedAt H b x.b ∧ RedAt H c x.c
def spTold : Sp := fun vs H Q _ => ∃ (a : Addr) (x : Bq), vs = [.ref a] ∧ DV H a 100 x ∧ ∀ (p : Addr) (H' : Hp), Same H H' → ToldAt H' p x → Q (.ref p) H'
section
variable {P : Program} {w : World} {K : PySem.W.Frag} {mg : Str → Option Value} {base : Heap}
theorem ok_cell (T : Txt K mg) : FnOk P w K mg base CX0 1 T.a_law_cell T.fd_law_cell ["script", "k"] (spCell K) := by
  refine T.F_law_cell.ok sc_law_cell (fun vs H Q E h => ?_) (fun cdv A outer s H vs Q E hr h => ?_)
  · obtain ⟨a, ns, k, rfl, _⟩ := h
    rfl
  obtain ⟨a, ns, k, rfl, hS, h0, q⟩ := h
  refine ⟨_, (pss_cons (ps_if (pt_cmpR op_lt (pv 1) (pe_callB call_len_seq (by rfl) T.z_len (by decide +kernel) (pa_cons (pv 0) pa_nil)) (nomark _))
      (pss_one (ps_ret (pe_ix ix_list (pv 0) (pv 1) (fun _ _ => rfl))))
      pss_nil)
    (pss_one (ps_ret pe_int))), ?_⟩
  refine ⟨_, rfl, _, rfl, a, _, rfl, .inl hS, _, _, rfl, rfl, _, rfl, ?_⟩
  refine ite2 (fun c => ?_) (fun c => ?_)
  · have c' := of_decide_eq_true c
    rw [List.length_map] at c'
    have hk : k.toNat < ns.length := by omega
    have e : atI (ns.map V.int) k = some (.int ns[k.toNat]) := at_of (j := k.toNat) (by omega) (by rw [List.getElem?_map, List.getElem?_eq_getElem hk] <;> rfl)
    exact ⟨_, rfl, _, rfl, a, _, _, _, rfl, rfl, hS, e, q _⟩
  · exact q 0
theorem ok_row (T : Txt K mg) : FnOk P w K mg base CX0 1 T.a_law_row T.fd_law_row ["cell", "count", "size"] spRow := by
  refine T.F_law_row.ok sc_law_row (fun vs H Q E h => ?_) (fun cdv A outer s H vs Q E hr h => ?_)
  · obtain ⟨c, n, z, rfl, _⟩ := h
    rfl
  obtain ⟨cell, count, size, rfl, c0, c1, s0, s1, q⟩ := h
  refine ⟨_, (pss_cons (ps_set (i := 3) sc_law_row.nd rfl (Or.inl rfl) (pv 0))
    (pss_cons (ps_set (i := 4) sc_law_row.nd rfl (Or.inl rfl) (pe_lst pa_nil))
    (pss_cons (ps_for PassesOwn.never rfl (pi_range1 (by rfl) T.z_range (pa_cons (pv 1) pa_nil)) (pg_name (i := 5) sc_law_row.nd rfl (Or.inl rfl))
      (pss_one (ps_if (pt_cmpR op_ge (pv 0) (pe_op op_pow pe_int pe_int) (nomark _))
      (pss_cons (ps_expr (pe_bm PySem.F.plainAttrs_list PySem.F.slot_list_append PySem.F.type_list_append mt_append (pv 4) (pa_cons (pe_op op_mod (pe_callTy call_int1 (by rfl) T.z_int (by decide +kernel) (pa_cons (pv 3) pa_nil)) (pv 2)) pa_nil)))
    (pss_one (ps_set (i := 3) sc_law_row.nd rfl (Or.inl rfl) (pe_op op_fdivW (pv 3) (pv 2)))))
      (pss_cons (ps_set (i := 3) sc_law_row.nd rfl (Or.inl rfl) (pe_op op_mod (pe_op op_add (pe_op op_mul (pv 3) pe_int) pe_int) pe_int))
    (pss_one (ps_expr (pe_bm PySem.F.plainAttrs_list PySem.F.slot_list_append PySem.F.type_list_append mt_append (pv 4) (pa_cons (pe_op op_mod (pe_op op_mod (pe_callTy call_int1 (by rfl) T.z_int (by decide +kernel) (pa_cons (pe_op op_add (pe_op op_mul (pv 3) pe_int) (pe_op op_mul (pv 5) pe_int)) pa_nil)) pe_int) (pv 2)) pa_nil))))))))
    (pss_one (ps_ret (pv 4)))))), ?_⟩
  refine ⟨_, rfl, (by show 0 ≤ sizeLine; decide), fun l hl => ?_⟩
  refine ⟨_, rfl, _, rfl, by omega, by omega, for_range (lo := 0) (n := count.toNat) (fun i σ H' => ∃ (st : Int) (ns : List Int) (kV : Option V), σ = [some (.int cell), some (.int count), some (.int size), some (.int st), some (.ref l), kV] ∧
    Same H H' ∧ H' l = some (.lst (ns.map V.int)) ∧ ns.length = i ∧ ∀ x ∈ ns, 0 ≤ x ∧ x < size) ⟨cell, [], none, rfl, same_new hl _, upd_same, rfl, fun x hx => nomatch hx⟩ ?_ ?_⟩
  · rintro i σ H' hi ⟨st, ns, kV, rfl, m, hL, hn, hb⟩
    have big : ns.length < sizeLine := Nat.lt_of_lt_of_le (show ns.length < 1001 by omega) (by decide)
    have nl : ∀ b o, H b = some o → b ≠ l := fun b o e => ne_of_none e hl
    have fin : ∀ (st' y : Int) (H2 : Hp), 0 ≤ y → y < size → H2 = upd H' l (.lst (ns.map V.int ++ [.int y])) → ∃ (st'' : Int) (ns' : List Int) (kV : Option V), ([some (.int cell), some (.int count), some (.int size), some (.int st'), some (.ref l), some (.int (0 + (i : Int)))] : List (Option V)) =
        [some (.int cell), some (.int count), some (.int size), some (.int st''), some (.ref l), kV] ∧ Same H H2 ∧ H2 l = some (.lst (ns'.map V.int)) ∧ ns'.length = i + 1 ∧ ∀ x ∈ ns', 0 ≤ x ∧ x < size := by
      intro st' y H2 h0 h1 e
      subst e
      refine ⟨st', ns ++ [y], _, rfl, fun b o z => by rw [upd_ne (nl b o z)]; exact m b o z, by rw [upd_same, List.map_append]; all_goals rfl, by rw [List.length_append, hn]; all_goals rfl, fun x hx => ?_⟩
      rcases List.mem_append.mp hx with z | z
      · exact hb x z
      · rw [List.mem_singleton.mp z]
        exact ⟨h0, h1⟩
    refine ⟨_, rfl, _, _, rfl, rfl, ⟨by decide, by decide, by decide⟩, _, _, rfl, rfl, _, rfl, ?_⟩
    refine ite2 (fun c => ?_) (fun c => ?_)
    · refine ⟨_, rfl, .inl ⟨rfl, _, SqL.of hL⟩, _, rfl, .inl ⟨_, rfl, _, rfl, _, _, rfl, rfl, s0, l, _, _, rfl, rfl, hL, (by rw [List.length_map]; exact big), ?_⟩⟩
      refine ⟨_, rfl, _, rfl, _, _, rfl, rfl, wide_div s0 s1 (by decide) (by decide), ?_⟩
      exact fin _ _ _ (Int.emod_nonneg _ (by omega)) (Int.emod_lt_of_pos _ s0) rfl
    · refine ⟨_, rfl, _, _, rfl, rfl, .inr ⟨by decide, by decide⟩, _, _, rfl, rfl, _, _, rfl, rfl, (by show (0 : Int) < 2147483647; decide), ?_⟩
      refine ⟨_, rfl, .inl ⟨rfl, _, SqL.of hL⟩, _, rfl, _, _, rfl, rfl, .inr ⟨by decide, by decide⟩, _, rfl, _, _, rfl, rfl, .inr ⟨by decide, by decide⟩, _, _, rfl, rfl, .inl ⟨_, rfl, ?_⟩⟩
      refine ⟨_, _, rfl, rfl, (by show (0 : Int) < 2147483647; decide), _, rfl, _, _, rfl, rfl, s0, l, _, _, rfl, rfl, hL, (by rw [List.length_map]; exact big), ?_⟩
      exact fin _ _ _ (Int.emod_nonneg _ (by omega)) (Int.emod_lt_of_pos _ s0) rfl
  · rintro σ H' ⟨st, ns, kV, rfl, m, hL, hn, hb⟩
    exact ⟨_, rfl, q l ns H' m hL hn hb⟩
theorem ok_less (T : Txt K mg) : FnOk P w K mg base CX0 1 T.a_law_less T.fd_law_less ["num", "den"] spLess := by
  refine T.F_law_less.ok sc_law_less (fun vs H Q E h => ?_) (fun cdv A outer s H vs Q E hr h => ?_)
  · obtain ⟨n, d, rfl, _⟩ := h
    rfl
  obtain ⟨n, d, rfl, hd, s1, s2, q⟩ := h
  refine ⟨_, (pss_cons (ps_set (i := 2) sc_law_less.nd rfl (Or.inl rfl) (pe_callB call_abs (by rfl) T.z_abs (by decide +kernel) (pa_cons (pv 0) pa_nil)))
    (pss_cons (ps_set (i := 3) sc_law_less.nd rfl (Or.inl rfl) (pv 1))
    (pss_cons (ps_for PassesOwn.never rfl (pi_range1 (by rfl) T.z_range (pa_cons pe_int pa_nil)) (pg_name (i := 4) sc_law_less.nd rfl (Or.inl rfl))
      (pss_cons (ps_if (pt_cmpR op_eq (pv 3) pe_int (nomark _))
      (pss_one ps_break)
      pss_nil)
    (pss_cons (ps_set (i := 5) sc_law_less.nd rfl (Or.inl rfl) (pe_op op_mod (pe_callTy call_int1 (by rfl) T.z_int (by decide +kernel) (pa_cons (pv 2) pa_nil)) (pv 3)))
    (pss_cons (ps_set (i := 2) sc_law_less.nd rfl (Or.inl rfl) (pv 3))
    (pss_one (ps_set (i := 3) sc_law_less.nd rfl (Or.inl rfl) (pv 5)))))))
    (pss_one (ps_ret (pe_tup (pa_cons (pe_op op_fdivW (pv 0) (pv 2)) (pa_cons (pe_op op_fdivW (pv 1) (pv 2)) pa_nil)))))))), ?_⟩
  refine ⟨_, rfl, _, rfl, ?_⟩
  refine ⟨_, rfl, ?_⟩
  have eab : (if n < 0 then -n else n) = (n.natAbs : Int) := by split <;> omega
  have e0 : Euc (Nat.gcd n.natAbs d.natAbs) (2 ^ 1200) 0 (if n < 0 then -n else n) d := by
    rw [eab]
    have z := euc_start (a := (n.natAbs : Int)) (b := d) (by omega) hd (P := 2 ^ 1200) ?_ ?_ ?_
    · rw [Int.natAbs_natCast] at z
      exact z
    · rw [Int.natAbs_natCast]
      have : n.natAbs * d.natAbs < 2 ^ 600 * 2 ^ 600 := Nat.mul_lt_mul'' s1 s2
      rw [← Nat.pow_add] at this
      exact Nat.le_of_lt this
    · rw [Int.natAbs_natCast]
      exact Nat.le_of_lt (Nat.lt_of_lt_of_le s1 (Nat.pow_le_pow_right (by decide) (by decide)))
    · exact Nat.le_of_lt (Nat.lt_of_lt_of_le s2 (Nat.pow_le_pow_right (by decide) (by decide)))
  have fin : ∀ (g : Int) (kV cV : Option V) (i : Nat), Euc (Nat.gcd n.natAbs d.natAbs) (2 ^ 1200) i g 0 →
      (tRet (tTup (tCons (tOp (rI CDivW fun i j => .int (i / j)) (tVar 0) (tVar 2)) (tCons (tOp (rI CDivW fun i j => .int (i / j)) (tVar 1) (tVar 2)) tNil)))) { nx := fun _ H' => Q .non H', rt := Q } [some (.int n), some (.int d), some (.int g), some (.int 0), kV, cV] H := by
    intro g kV cV i he
    obtain ⟨eg, gp⟩ := euc_end he
    have hg : Sm 600 g := by rw [eg]; exact sm_gcd hd s2
    refine ⟨_, rfl, _, rfl, _, _, rfl, rfl, cdiv gp hg, _, rfl, _, rfl, _, _, rfl, rfl, cdiv gp hg, ?_⟩
    refine ⟨(by show 2 ≤ sizeLine; decide), fun p hp => q p _ (same_new hp _) ?_⟩
    unfold RedAt
    rw [upd_same, eg, ← red_num hd, ← red_den hd]
    rfl
  refine ⟨2000, rfl, by decide, by decide, for_range (n := 2000) (fun i σ H' => H' = H ∧ ∃ (a b : Int) (kV cV : Option V), σ = [some (.int n), some (.int d), some (.int a), some (.int b), kV, cV] ∧ Euc (Nat.gcd n.natAbs d.natAbs) (2 ^ 1200) i a b)
    ⟨rfl, _, _, none, none, rfl, e0⟩ ?_ ?_⟩
  · rintro i σ H' hi ⟨rfl, a, b, kV, cV, rfl, he⟩
    refine ⟨_, rfl, rfl, _, rfl, ?_⟩
    refine ite2 (fun c => ?_) (fun c => ?_)
    · have c' : b = 0 := V.int.inj (of_decide_eq_true c)
      subst c'
      exact fin _ _ _ i he
    · have c' : b ≠ 0 := fun z => c (decide_eq_true (congrArg V.int z))
      have bp : 0 < b := by have := he.2.1; omega
      refine ⟨_, rfl, .inl ⟨_, rfl, _, rfl, _, _, rfl, rfl, bp, ?_⟩⟩
      refine ⟨_, rfl, _, rfl, ?_⟩
      exact ⟨rfl, b, a % b, _, _, rfl, euc_turn he c'⟩
  · rintro σ H' ⟨rfl, a, b, kV, cV, rfl, he⟩
    have b0 : b = 0 := euc_over (i := 1999) he (Nat.pow_lt_pow_right (by decide) (by decide))
    subst b0
    exact fin _ _ _ 2000 he
theorem pair_ix {H : Hp} {p : Addr} {n d : Int} (h : H p = some (.tup [.int n, .int d])) : SqT K H p [.int n, .int d] := SqT.of h
theorem sm290 {k : Nat} {n : Int} (h : Sm k n) (e : k ≤ 290) : Sm 290 n := h.mono e
theorem ok_plus (T : Txt K mg) : FnOk P w K mg base CX0 2 T.a_law_plus T.fd_law_plus ["one", "other"] (spPair2 fun q r => q + r) := by
  have G_law_less : FnOk P w K mg base CX0 1 T.a_law_less T.fd_law_less ["num", "den"] spLess := ok_less T
  refine T.F_law_plus.ok sc_law_plus (fun vs H Q E h => ?_) (fun cdv A outer s H vs Q E hr h => ?_)
  · obtain ⟨a, b, q, r, rfl, _⟩ := h
    rfl
  obtain ⟨a, b, q, r, rfl, ⟨n, d, ha, d0, sn, sd, rfl⟩, ⟨n', d', hb, d0', sn', sd', rfl⟩, k⟩ := h
  refine ⟨_, (pss_one (ps_ret (pe_call G_law_less (hr.mono (by decide)) rfl T.g_law_less T.k_law_less T.b_law_less .nil pass0 (pa_cons (pe_op op_add (pe_op op_mulW (pe_ix ix_tup (pv 0) pe_int (fun _ _ => rfl)) (pe_ix ix_tup (pv 1) pe_int (fun _ _ => rfl))) (pe_op op_mulW (pe_ix ix_tup (pv 1) pe_int (fun _ _ => rfl)) (pe_ix ix_tup (pv 0) pe_int (fun _ _ => rfl)))) (pa_cons (pe_op op_mulW (pe_ix ix_tup (pv 0) pe_int (fun _ _ => rfl)) (pe_ix ix_tup (pv 1) pe_int (fun _ _ => rfl))) pa_nil))))), ?_⟩
  refine ⟨_, rfl, a, _, _, _, rfl, rfl, SqT.of ha, rfl, _, rfl, b, _, _, _, rfl, rfl, SqT.of hb, rfl, _, _, rfl, rfl, cmul sn sd', ?_⟩
  refine ⟨_, rfl, b, _, _, _, rfl, rfl, SqT.of hb, rfl, _, rfl, a, _, _, _, rfl, rfl, SqT.of ha, rfl, _, _, rfl, rfl, cmul sn' sd, _, _, rfl, rfl, ?_⟩
  refine ⟨_, rfl, a, _, _, _, rfl, rfl, SqT.of ha, rfl, _, rfl, b, _, _, _, rfl, rfl, SqT.of hb, rfl, _, _, rfl, rfl, cmul sd sd', ?_⟩
  refine ⟨_, _, rfl, Int.mul_pos d0 d0', Sm.mono (add_lt2 (mul_lt2 sn sd') (mul_lt2 sn' sd)) (by decide), Sm.mono (mul_lt2 sd sd') (by decide), fun p H' m e => k p H' m ?_⟩
  show RedAt H' p (fr n d + fr n' d')
  rw [← fr_add d0 d0']
  exact e
theorem ok_times (T : Txt K mg) : FnOk P w K mg base CX0 2 T.a_law_times T.fd_law_times ["one", "other"] (spPair2 fun q r => q * r) := by
  have G_law_less : FnOk P w K mg base CX0 1 T.a_law_less T.fd_law_less ["num", "den"] spLess := ok_less T
  refine T.F_law_times.ok sc_law_times (fun vs H Q E h => ?_) (fun cdv A outer s H vs Q E hr h => ?_)
  · obtain ⟨a, b, q, r, rfl, _⟩ := h
    rfl
  obtain ⟨a, b, q, r, rfl, ⟨n, d, ha, d0, sn, sd, rfl⟩, ⟨n', d', hb, d0', sn', sd', rfl⟩, k⟩ := h
  refine ⟨_, (pss_one (ps_ret (pe_call G_law_less (hr.mono (by decide)) rfl T.g_law_less T.k_law_less T.b_law_less .nil pass0 (pa_cons (pe_op op_mulW (pe_ix ix_tup (pv 0) pe_int (fun _ _ => rfl)) (pe_ix ix_tup (pv 1) pe_int (fun _ _ => rfl))) (pa_cons (pe_op op_mulW (pe_ix ix_tup (pv 0) pe_int (fun _ _ => rfl)) (pe_ix ix_tup (pv 1) pe_int (fun _ _ => rfl))) pa_nil))))), ?_⟩
  refine ⟨_, rfl, a, _, _, _, rfl, rfl, SqT.of ha, rfl, _, rfl, b, _, _, _, rfl, rfl, SqT.of hb, rfl, _, _, rfl, rfl, cmul sn sn', ?_⟩
  refine ⟨_, rfl, a, _, _, _, rfl, rfl, SqT.of ha, rfl, _, rfl, b, _, _, _, rfl, rfl, SqT.of hb, rfl, _, _, rfl, rfl, cmul sd sd', ?_⟩
  refine ⟨_, _, rfl, Int.mul_pos d0 d0', Sm.mono (mul_lt2 sn sn') (by decide), Sm.mono (mul_lt2 sd sd') (by decide), fun p H' m e => k p H' m ?_⟩
  show RedAt H' p (fr n d * fr n' d')
  rw [← fr_mul d0 d0']
  exact e
/-- a pair as it is drawn -/
def Raw (top : Int) : Hp → Addr → Nat → Prop := fun H p _ => ∃ n d : Int, H p = some (.tup [.int n, .int d]) ∧ 0 ≤ n ∧ n < 100 ∧ 1 ≤ d ∧ d ≤ top
theorem raw_mon (top : Int) : Mon (Raw top) := fun H H' a j e ⟨n, d, h, r⟩ => ⟨n, d, e _ _ h (fun _ z => nomatch z), r⟩
theorem raw_pv {H : Hp} {p : Addr} {j : Nat} (h : Raw 1000000000 H p j) : ∃ q, PV H p 30 q ∧ 0 ≤ q := by
  obtain ⟨n, d, h, n0, n1, d0, d1⟩ := h
  refine ⟨fr n d, ⟨n, d, h, by omega, ?_, ?_, rfl⟩, (fr_nonneg (by omega)).mpr n0⟩
  · show n.natAbs < 1073741824
    omega
  · show d.natAbs < 1073741824
    omega
theorem tall3 {r : Int} : ∃ t : Int, atI ([.int 50, .int 50, .int 1000] : List V) (r % 3) = some (.int t) ∧ 0 < t ∧ t ≤ 1000 := by
  have h0 := Int.emod_nonneg r (by decide : (3 : Int) ≠ 0)
  have h1 := Int.emod_lt_of_pos r (by decide : (0 : Int) < 3)
  generalize r % 3 = s at *
  have : s = 0 ∨ s = 1 ∨ s = 2 := by omega
  rcases this with rfl | rfl | rfl
  · exact ⟨50, rfl, by decide, by decide⟩
  · exact ⟨50, rfl, by decide, by decide⟩
  · exact ⟨1000, rfl, by decide, by decide⟩
theorem lim2 {a b r : Int} : ∃ t : Int, atI ([.int a, .int b] : List V) (r % 4 / 3) = some (.int t) ∧ (t = a ∨ t = b) := by
  have : r % 4 / 3 = 0 ∨ r % 4 / 3 = 1 := by omega
  rcases this with e | e
  · rw [e]; exact ⟨a, rfl, .inl rfl⟩
  · rw [e]; exact ⟨b, rfl, .inr rfl⟩
theorem dv_of {H : Hp} {p l : Addr} {vs : List V} {lim : Option Int} (hp : H p = some (.tup [.ref l, lV lim])) (hl : H l = some (.lst vs)) (hn : vs.length = 3) (hr : ∀ j v, vs[j]? = some v → ∃ a, v = .ref a ∧ Raw 1000000000 H a j) (h0 : ∀ i, lim = some i → 0 ≤ i) :
    ∃ x : Bq, x.lim = lim ∧ DV H p 30 x ∧ x.Ok 30 := by
  obtain ⟨v1, v2, v3, rfl⟩ := three_of hn
  obtain ⟨a, rfl, r1⟩ := hr 0 v1 rfl
  obtain ⟨b, rfl, r2⟩ := hr 1 v2 rfl
  obtain ⟨c, rfl, r3⟩ := hr 2 v3 rfl
  obtain ⟨q1, p1, n1⟩ := raw_pv r1
  obtain ⟨q2, p2, n2⟩ := raw_pv r2
  obtain ⟨q3, p3, n3⟩ := raw_pv r3
  exact ⟨⟨q1, q2, q3, lim⟩, rfl, ⟨l, a, b, c, hp, hl, p1, p2, p3⟩, ⟨n1, n2, n3, p1.sz, p2.sz, p3.sz, h0⟩⟩
theorem ok_drawn (T : Txt K mg) : FnOk P w K mg base CX0 2 T.a_law_drawn T.fd_law_drawn ["cell"] spDrawn := by
  have G_law_row : FnOk P w K mg base CX0 1 T.a_law_row T.fd_law_row ["cell", "count", "size"] spRow := ok_row T
  refine T.F_law_drawn.ok sc_law_drawn (fun vs H Q E h => ?_) (fun cdv A outer s H vs Q E hr h => ?_)
  · obtain ⟨c, rfl, _⟩ := h
    rfl
  obtain ⟨cell, rfl, k⟩ := h
  refine ⟨_, (pss_cons (ps_set (i := 1) sc_law_drawn.nd rfl (Or.inr rfl) (pe_call G_law_row (hr.mono (by decide)) rfl T.g_law_row T.k_law_row T.b_law_row .nil pass0 (pa_cons (pv 0) (pa_cons pe_int (pa_cons pe_int pa_nil)))))
    (pss_cons (ps_set (i := 2) sc_law_drawn.nd rfl (Or.inr rfl) (pe_ix ix_tup (pe_tup (pa_cons pe_int (pa_cons pe_int (pa_cons pe_int pa_nil)))) (pe_op op_mod (pe_op op_fdivW (pe_ix ix_list (pv 1) pe_int (fun _ _ => rfl)) pe_int) pe_int) (fun _ _ => rfl)))
    (pss_cons (ps_setLc (i := 3) (own := [("k", 4)]) (g := gName 4) (tt := tYes) rfl sc_law_drawn.nd rfl rfl (sw_true rfl rfl rfl (by decide +kernel)) (pi_range1 (by rfl) T.z_range (pa_cons pe_int pa_nil)) (blkOk_by (own := [("k", 4)]) (N := ["cell", "digits", "tall", "parts", "k", "part", "limit"]) (sc := defScope s_law_drawn) (by decide +kernel)) (fun _ _ _ _ _ => pg_name (i := 4) sc_law_drawn.nd rfl (Or.inl rfl)) (fun _ _ _ _ _ => pts_nil) (fun _ _ _ _ _ => (pe_tup (pa_cons (pe_op op_mulW (pe_op op_mod (pe_ix (ixlK K rfl) (pv 1) (pe_op op_mulW pe_int (pv 4)) (fun _ _ => rfl)) pe_int) (pe_op op_mod (pe_op op_fdivW (pe_ix (ixlK K rfl) (pv 1) (pe_op op_mulW pe_int (pv 4)) (fun _ _ => rfl)) pe_int) pe_int)) (pa_cons (pe_op op_add pe_int (pe_op op_mod (pe_ix (ixlK K rfl) (pv 1) (pe_op op_add (pe_op op_mulW pe_int (pv 4)) pe_int) (fun _ _ => rfl)) (pv 2))) pa_nil)))))
    (pss_cons (ps_if (pt_cmpR op_eq (pe_op op_mod (pe_op op_fdivW (pe_ix ix_list (pv 1) pe_int (fun _ _ => rfl)) pe_int) pe_int) pe_int (nomark _))
      (pss_one (ps_setLc (i := 3) (own := [("part", 5)]) (g := gName 5) (tt := tYes) rfl sc_law_drawn.nd rfl rfl (sw_true rfl rfl rfl (by decide +kernel)) (pi_list (pv 3)) (blkOk_by (own := [("part", 5)]) (N := ["cell", "digits", "tall", "parts", "k", "part", "limit"]) (sc := defScope s_law_drawn) (by decide +kernel)) (fun _ _ _ _ _ => pg_name (i := 5) sc_law_drawn.nd rfl (Or.inl rfl)) (fun _ _ _ _ _ => pts_nil) (fun _ _ _ _ _ => (pe_tup (pa_cons (pe_ix (ixtK K rfl) (pv 5) pe_int (fun _ _ => rfl)) (pa_cons (pe_op op_mulW (pe_ix (ixtK K rfl) (pv 5) pe_int (fun _ _ => rfl)) (pe_op op_pow pe_int pe_int)) pa_nil))))))
      pss_nil)
    (pss_cons (ps_set (i := 6) sc_law_drawn.nd rfl (Or.inl rfl) pe_non)
    (pss_cons (ps_if (pt_cmpR op_eq (pe_op op_mod (pe_ix ix_list (pv 1) pe_int (fun _ _ => rfl)) pe_int) pe_int (nomark _))
      (pss_one (ps_set (i := 6) sc_law_drawn.nd rfl (Or.inl rfl) (pe_ix ix_tup (pe_tup (pa_cons (pe_op op_mod (pe_ix ix_list (pv 1) pe_int (fun _ _ => rfl)) pe_int) (pa_cons (pe_ix ix_list (pv 1) pe_int (fun _ _ => rfl)) pa_nil))) (pe_op op_fdivW (pe_op op_mod (pe_op op_fdivW (pe_ix ix_list (pv 1) pe_int (fun _ _ => rfl)) pe_int) pe_int) pe_int) (fun _ _ => rfl))))
      pss_nil)
    (pss_one (ps_ret (pe_tup (pa_cons (pv 3) (pa_cons (pv 6) pa_nil))))))))))), ?_⟩
  refine ⟨_, rfl, cell, 8, 1000, rfl, by decide, by decide, by decide, by decide, fun dl ds H1 m1 hD hn hb => ?_⟩
  have dig : ∀ i : Int, 0 ≤ i → i < 8 → ∃ d : Int, (0 ≤ d ∧ d < 1000) ∧ atI (ds.map V.int) i = some (.int d) := fun i h0 h1 => dig_at hb h0 (by rw [hn]; exact h1)
  obtain ⟨d6, b6, e6⟩ := dig 6 (by decide) (by decide)
  obtain ⟨d7, b7, e7⟩ := dig 7 (by decide) (by decide)
  obtain ⟨tall, ht, t0, t1⟩ := tall3 (r := d6 / 8)
  refine ⟨(by show 3 ≤ sizeLine; decide), fun tp htp => ?_⟩
  have m2 := same_new htp (.tup [.int 50, .int 50, .int 1000])
  have eight : CDivW d6 8 := cdiv (k := 10) (by decide) (by decide)
  refine ⟨_, rfl, dl, _, _, _, rfl, rfl, SqL.of (m2 _ _ hD), e6, _, _, rfl, rfl, eight, _, _, rfl, rfl, (by show (0 : Int) < 3; decide), tp, _, _, _, rfl, rfl, SqT.of upd_same, ht, ?_⟩
  have hD2 := m2 _ _ hD
  have m12 := m1.trans m2
  revert hD2 m12
  generalize upd H1 tp _ = H2
  intro hD2 m12
  have two2 : (2 : Nat) ≤ sizeLine := by decide
  refine ⟨_, rfl, by decide, by decide, fun D hDn => ?_⟩
  refine lc_range (lo := 0) (n := 3) (fun i H' => ∃ vs, It (Raw 1000) H2 H' D vs ∧ vs.length = i) ⟨[], It.start hDn, rfl⟩ ?_ ?_
  · rintro i H3 hi ⟨vs, it, hv⟩
    obtain ⟨da, ba, ea⟩ := dig (2 * (0 + (i : Int))) (by omega) (by omega)
    obtain ⟨db, bb, eb⟩ := dig (2 * (0 + (i : Int)) + 1) (by omega) (by omega)
    have c2 : CMulW 2 (0 + (i : Int)) := cmul (j := 2) (k := 3) (by decide) (by show (0 + (i : Int)).natAbs < 8; omega)
    have hD3 := SqL.of (K := K) (it.s _ _ hD2)
    have sa : Sm 10 da := by show da.natAbs < 1024; omega
    refine ⟨rfl, ?_⟩
    refine ⟨_, rfl, _, rfl, _, _, rfl, rfl, c2, dl, _, _, _, rfl, rfl, hD3, ea, _, _, rfl, rfl, (by show (0 : Int) < 100; decide), ?_⟩
    refine ⟨_, rfl, _, rfl, _, _, rfl, rfl, c2, dl, _, _, _, rfl, rfl, hD3, ea, _, _, rfl, rfl, cdiv (k := 10) (by decide) (by decide), _, _, rfl, rfl, (by show (0 : Int) < 2; decide), ?_⟩
    have x1 : 0 ≤ da % 100 ∧ da % 100 < 100 := ⟨Int.emod_nonneg _ (by decide), Int.emod_lt_of_pos _ (by decide)⟩
    have x2 : da / 100 % 2 = 0 ∨ da / 100 % 2 = 1 := by omega
    have cm : CMulW (da % 100) (da / 100 % 2) := cmul (j := 10) (k := 2) (by show (da % 100).natAbs < 1024; omega) (by show (da / 100 % 2).natAbs < 4; omega)
    refine ⟨_, _, rfl, rfl, cm, _, rfl, _, rfl, _, _, rfl, rfl, c2, _, _, rfl, rfl, dl, _, _, _, rfl, rfl, hD3, eb, _, rfl, _, _, rfl, rfl, t0, _, _, rfl, rfl, two2, fun p hp => ?_⟩
    have y1 := Int.emod_nonneg db (by omega : tall ≠ 0)
    have y2 := Int.emod_lt_of_pos db t0
    have it' := it.grow (raw_mon _) (same_new hp (.tup [.int (da % 100 * (da / 100 % 2)), .int (1 + db % tall)]))
    have r : Raw 1000 (upd H3 p (.tup [.int (da % 100 * (da / 100 % 2)), .int (1 + db % tall)])) p vs.length := by
      refine ⟨_, _, upd_same, ?_, ?_, by omega, by omega⟩
      · rcases x2 with e | e <;> rw [e] <;> omega
      · rcases x2 with e | e <;> rw [e] <;> omega
    exact ⟨vs, it'.l, Nat.lt_of_lt_of_le (show vs.length < 4 by omega) (by decide), vs ++ [.ref p], it'.add (raw_mon _) r, by rw [List.length_append, hv]; rfl⟩
  rintro H3 ⟨vs, it, hv⟩
  have hD3 := it.s _ _ hD2
  -- the rest of the def, whichever the list
  have rest : ∀ (H4 : Hp) (l : Addr) (us : List V) (pV : Option V), Same H2 H4 → H4 l = some (.lst us) → us.length = 3 → (∀ j v, us[j]? = some v → ∃ a, v = .ref a ∧ Raw 1000000000 H4 a j) → ∀ lim : Option Int, (∀ i, lim = some i → 0 ≤ i) → ∀ (p : Addr), H4 p = none → Q (.ref p) (upd H4 p (.tup [.ref l, lV lim])) := by
    intro H4 l us pV m24 hl hn3 hr lim h0 p hp
    have m5 := same_new hp (.tup [.ref l, lV lim])
    obtain ⟨x, ex, dv, ok⟩ := dv_of (p := p) (upd_same (H := H4)) (m5 _ _ hl) hn3 (fun j v z => let ⟨a, e, r⟩ := hr j v z; ⟨a, e, raw_mon _ _ _ _ _ (Same.keep m5) r⟩) h0
    exact k p x _ (m12.trans (m24.trans m5)) dv ok
  have c24 : CDivW d6 24 := cdiv (k := 10) (by decide) (by decide)
  refine ⟨_, rfl, dl, _, _, _, rfl, rfl, SqL.of hD3, e6, _, _, rfl, rfl, c24, _, _, rfl, rfl, (by show (0 : Int) < 4; decide), rfl, _, rfl, ?_⟩
  refine ite2 (fun _ => ?_) (fun _ => ?_)
  · refine ⟨_, rfl, D, rfl, ⟨_, SqL.of it.l⟩, fun D2 hDn2 => ?_⟩
    refine lc_list (K := K) (a := D) (xs := vs) (fun i H' => ∃ us, It (Raw 1000000000) H3 H' D2 us ∧ us.length = i) ⟨[], It.start hDn2, rfl⟩ (fun i H' _ ⟨_, b, _⟩ => SqL.of (b.s _ _ it.l)) ?_ ?_
    · rintro i y H4 hy ⟨us, it2, hu⟩
      obtain ⟨a, rfl, n, d, ha, n0, n1, d0, d1⟩ := it.e i y hy
      have hi : i < 3 := by
        have := (List.getElem?_eq_some_iff.mp hy).1
        omega
      have ha4 := it2.s _ _ ha
      refine ⟨rfl, ?_⟩
      have ep : (10 : Int) ^ (6 : Int).toNat = 1000000 := by decide
      have cm : CMulW d (10 ^ (6 : Int).toNat) := by rw [ep]; exact cmul (j := 20) (k := 20) (by show d.natAbs < 1048576; omega) (by decide)
      refine ⟨_, rfl, a, _, _, _, rfl, rfl, SqT.of ha4, rfl, _, rfl, a, _, _, _, rfl, rfl, SqT.of ha4, rfl, _, _, rfl, rfl, ⟨by decide, by decide, by decide⟩, _, _, rfl, rfl, cm, two2, fun p hp => ?_⟩
      have it' := it2.grow (raw_mon _) (same_new hp (.tup [.int n, .int (d * 10 ^ (6 : Int).toNat)]))
      have r : Raw 1000000000 (upd H4 p (.tup [.int n, .int (d * 10 ^ (6 : Int).toNat)])) p us.length := ⟨_, _, upd_same, n0, n1, by rw [ep]; omega, by rw [ep]; omega⟩
      exact ⟨us, it'.l, Nat.lt_of_lt_of_le (show us.length < 4 by omega) (by decide), us ++ [.ref p], it'.add (raw_mon _) r, by rw [List.length_append, hu]; rfl⟩
    rintro H4 ⟨us, it2, hu⟩
    have hD4 := it2.s _ _ hD3
    have m24 := it.s.trans it2.s
    have hl := it2.l
    have hn3 : us.length = 3 := by rw [hu, hv]
    have hr := it2.e
    have c62 : CDivW d6 2 := cdiv (k := 10) (by decide) (by decide)
    have c63 : CDivW (d6 / 2 % 4) 3 := cdiv (k := 10) (by decide) (by decide)
    refine ⟨_, rfl, dl, _, _, _, rfl, rfl, SqL.of hD4, e6, _, _, rfl, rfl, (by show (0 : Int) < 2; decide), rfl, _, rfl, ite2 (fun _ => ?_) (fun _ => ?_)⟩
    · obtain ⟨t, et, ht2⟩ := lim2 (a := d7 % 10) (b := d7) (r := d6 / 2)
      refine ⟨_, rfl, dl, _, _, _, rfl, rfl, SqL.of hD4, e7, _, _, rfl, rfl, (by show (0 : Int) < 10; decide), _, rfl, dl, _, _, _, rfl, rfl, SqL.of hD4, e7, two2, fun q hq => ?_⟩
      have m5 := same_new hq (.tup [.int (d7 % 10), .int d7])
      refine ⟨_, rfl, dl, _, _, _, rfl, rfl, SqL.of (m5 _ _ hD4), e6, _, _, rfl, rfl, c62, _, _, rfl, rfl, (by show (0 : Int) < 4; decide), _, _, rfl, rfl, c63, q, _, _, _, rfl, rfl, SqT.of upd_same, et, ?_⟩
      refine ⟨_, rfl, _, rfl, two2, fun p hp => rest _ _ us none (m24.trans m5) (m5 _ _ hl) hn3 (fun j v z => let ⟨a, e, r⟩ := hr j v z; ⟨a, e, raw_mon _ _ _ _ _ (Same.keep m5) r⟩) (some t) (fun i z => ?_) p hp⟩
      cases z
      rcases ht2 with e | e <;> rw [e] <;> omega
    · exact ⟨_, rfl, _, rfl, two2, fun p hp => rest H4 _ us none m24 hl hn3 hr none (fun i z => nomatch z) p hp⟩
  · obtain ⟨H4, e4⟩ : ∃ H4, H4 = H3 := ⟨_, rfl⟩
    subst e4
    have hD4 := hD3
    have m24 := it.s
    have hl := it.l
    obtain ⟨us, eu⟩ : ∃ us, us = vs := ⟨_, rfl⟩
    subst eu
    have hn3 := hv
    have hr : ∀ j v, us[j]? = some v → ∃ a, v = .ref a ∧ Raw 1000000000 H4 a j := fun j v z => let ⟨a, e, n, d, h, n0, n1, d0, d1⟩ := it.e j v z; ⟨a, e, n, d, h, n0, n1, d0, by omega⟩
    have c62 : CDivW d6 2 := cdiv (k := 10) (by decide) (by decide)
    have c63 : CDivW (d6 / 2 % 4) 3 := cdiv (k := 10) (by decide) (by decide)
    refine ⟨_, rfl, dl, _, _, _, rfl, rfl, SqL.of hD4, e6, _, _, rfl, rfl, (by show (0 : Int) < 2; decide), rfl, _, rfl, ite2 (fun _ => ?_) (fun _ => ?_)⟩
    · obtain ⟨t, et, ht2⟩ := lim2 (a := d7 % 10) (b := d7) (r := d6 / 2)
      refine ⟨_, rfl, dl, _, _, _, rfl, rfl, SqL.of hD4, e7, _, _, rfl, rfl, (by show (0 : Int) < 10; decide), _, rfl, dl, _, _, _, rfl, rfl, SqL.of hD4, e7, two2, fun q hq => ?_⟩
      have m5 := same_new hq (.tup [.int (d7 % 10), .int d7])
      refine ⟨_, rfl, dl, _, _, _, rfl, rfl, SqL.of (m5 _ _ hD4), e6, _, _, rfl, rfl, c62, _, _, rfl, rfl, (by show (0 : Int) < 4; decide), _, _, rfl, rfl, c63, q, _, _, _, rfl, rfl, SqT.of upd_same, et, ?_⟩
      refine ⟨_, rfl, _, rfl, two2, fun p hp => rest _ _ us none (m24.trans m5) (m5 _ _ hl) hn3 (fun j v z => let ⟨a, e, r⟩ := hr j v z; ⟨a, e, raw_mon _ _ _ _ _ (Same.keep m5) r⟩) (some t) (fun i z => ?_) p hp⟩
      cases z
      rcases ht2 with e | e <;> rw [e] <;> omega
    · exact ⟨_, rfl, _, rfl, two2, fun p hp => rest H4 _ us none m24 hl hn3 hr none (fun i z => nomatch z) p hp⟩
theorem ok_made (T : Txt K mg) : FnOk P w K mg base CX0 3 T.a_law_made T.fd_law_made ["drawn"] (spMade T.C_Bound T.C_Ratio) := by
  have G_Ratio_init : FnOk P w K mg base (L2.CX P w) 1 T.a_Ratio_init T.fd_Ratio_init ["self", "num", "den"] (spInit T.C_Ratio T.C_BadBound) := ok_init T
  have G_Bound_init : FnOk P w K mg base (L2.CX P w) 1 T.a_Bound_init T.fd_Bound_init ["self", "flat", "first", "more", "limit"] (spBInit T.C_Bound T.C_Ratio T.C_BadBound) := ok_binit T
  refine T.F_law_made.ok sc_law_made (fun vs H Q E h => ?_) (fun cdv A outer s H vs Q E hr h => ?_)
  · obtain ⟨a, x, rfl, _⟩ := h
    rfl
  obtain ⟨p, x, rfl, ⟨l, a, b, c, hp, hl, p1, p2, p3⟩, ok, k⟩ := h
  refine ⟨_, (pss_cons (ps_setLc (i := 1) (own := [("pair", 2)]) (g := gName 2) (tt := tYes) rfl sc_law_made.nd rfl rfl (sw_true rfl rfl rfl (by decide +kernel)) (pi_list (pe_ix ix_tup (pv 0) pe_int (fun _ _ => rfl))) (blkOk_by (own := [("pair", 2)]) (N := ["drawn", "parts", "pair"]) (sc := defScope s_law_made) (by decide +kernel)) (fun _ _ _ _ _ => pg_name (i := 2) sc_law_made.nd rfl (Or.inl rfl)) (fun _ _ _ _ _ => pts_nil) (fun _ _ _ _ _ => (pe_make T.mk_Ratio G_Ratio_init (hr.mono (by decide)) rfl T.g_Ratio T.b_Ratio_init .nil passL (pa_cons (pe_ix (ixtK K rfl) (pv 2) pe_int (fun _ _ => rfl)) (pa_cons (pe_ix (ixtK K rfl) (pv 2) pe_int (fun _ _ => rfl)) pa_nil)))))
    (pss_one (ps_ret (pe_make T.mk_Bound G_Bound_init (hr.mono (by decide)) rfl T.g_Bound T.b_Bound_init .nil passL (pa_cons (pe_ix ix_list (pv 1) pe_int (fun _ _ => rfl)) (pa_cons (pe_ix ix_list (pv 1) pe_int (fun _ _ => rfl)) (pa_cons (pe_ix ix_list (pv 1) pe_int (fun _ _ => rfl)) (pa_cons (pe_ix ix_tup (pv 0) pe_int (fun _ _ => rfl)) pa_nil)))))))), ?_⟩
  refine ⟨_, rfl, p, _, _, _, rfl, rfl, SqT.of hp, rfl, l, rfl, ⟨_, SqL.of hl⟩, fun D hDn => ?_⟩
  have mon : Mon (fun H a j => RV T.C_Ratio H a (Bq.sel x j)) := fun H H' a j e ⟨dx, h⟩ => ⟨dx, e _ _ h (fun _ z => nomatch z)⟩
  refine lc_list (K := K) (a := l) (xs := [.ref a, .ref b, .ref c]) (fun i H' => ∃ us, It (fun H a j => RV T.C_Ratio H a (Bq.sel x j)) H H' D us ∧ us.length = i) ⟨[], It.start hDn, rfl⟩ (fun i H' _ ⟨_, q, _⟩ => SqL.of (q.s _ _ hl)) ?_ ?_
  · rintro i y H2 hy ⟨us, it, hu⟩
    have hi : i < 3 := (List.getElem?_eq_some_iff.mp hy).1
    obtain ⟨r, rfl, n, d, hr0, d0, sn, sd, eq⟩ := sel3 p1 p2 p3 hy
    have hr2 := it.s _ _ hr0
    refine ⟨rfl, ?_⟩
    refine ⟨_, rfl, r, _, _, _, rfl, rfl, SqT.of hr2, rfl, _, rfl, r, _, _, _, rfl, rfl, SqT.of hr2, rfl, fun x1 d1 nx1 nd1 ne1 => ?_⟩
    refine ⟨x1, d1, n, d, rfl, upd_same, sn.mono (by decide), sd.mono (by decide), fun z => absurd d0 (by omega), fun _ H3 R3 k3 => ⟨rfl, ?_⟩⟩
    have it' := it.grow mon (same_upd nx1 nd1 k3)
    rw [eq] at R3
    subst hu
    exact ⟨us, it'.l, Nat.lt_of_lt_of_le (show us.length < 4 by omega) (by decide), us ++ [.ref x1], it'.add mon R3, by rw [List.length_append]; rfl⟩
  rintro H2 ⟨us, it, hu⟩
  obtain ⟨v1, v2, v3, rfl⟩ := three_of hu
  obtain ⟨a1, rfl, A1⟩ := it.e 0 v1 rfl
  obtain ⟨a2, rfl, A2⟩ := it.e 1 v2 rfl
  obtain ⟨a3, rfl, A3⟩ := it.e 2 v3 rfl
  have hD := SqL.of (K := K) it.l
  refine ⟨_, rfl, D, _, _, _, rfl, rfl, hD, rfl, _, rfl, D, _, _, _, rfl, rfl, hD, rfl, _, rfl, D, _, _, _, rfl, rfl, hD, rfl, _, rfl, p, _, _, _, rfl, rfl, SqT.of (it.s _ _ hp), rfl, fun x4 d4 nx4 nd4 ne4 => ?_⟩
  have m4 := same_make nx4 nd4 (C := T.C_Bound)
  refine ⟨x4, d4, a1, a2, a3, x, rfl, upd_same, A1.same m4, A2.same m4, A3.same m4, fun z => absurd (good_of ok) z, fun _ H4 B4 k4 => ⟨rfl, ?_⟩⟩
  exact k x4 H4 (it.s.trans (same_upd nx4 nd4 k4)) B4
end
end Toy
set_option Elab.async false
set_option linter.all false
set_option maxRecDepth 100000
set_option maxHeartbeats 4000000
namespace Toy
open PySem L2 Mine
open Gm (ixlK ixtK)
theorem red_same {H H' : Hp} {p : Addr} {q : Rat} (h : RedAt H p q) (e : Same H H') : RedAt H' p q := e _ _ h
section
variable {P : Program} {w : World} {K : PySem.W.Frag} {mg : Str → Option Value} {base : Heap}
theorem ok_lat (T : Txt K mg) : FnOk P w K mg base CX0 3 T.a_law_at T.fd_law_at ["drawn", "calls"] spLAt := by
  have G_law_plus : FnOk P w K mg base CX0 2 T.a_law_plus T.fd_law_plus ["one", "other"] (spPair2 fun q r => q + r) := ok_plus T
  have G_law_times : FnOk P w K mg base CX0 2 T.a_law_times T.fd_law_times ["one", "other"] (spPair2 fun q r => q * r) := ok_times T
  refine T.F_law_at.ok sc_law_at (fun vs H Q E h => ?_) (fun cdv A outer s H vs Q E hr h => ?_)
  · obtain ⟨a, x, q, rfl, _⟩ := h
    rfl
  obtain ⟨p, x, q, rfl, ⟨l, a, b, c, hp, hl, p1, p2, p3⟩, ok, q0, sq, k⟩ := h
  refine ⟨_, (pss_cons (ps_if (pt_cmpR op_eq (pv 1) pe_int (nomark _))
      (pss_one (ps_ret (pe_tup (pa_cons pe_int (pa_cons pe_int pa_nil)))))
      pss_nil)
    (pss_cons (ps_if (PW.pt (pw_and (pt_cmpR op_notN (pe_ix ix_tup (pv 0) pe_int (fun _ _ => rfl)) pe_non (nomark _)) (pw_and1 (pt_cmpR op_gt (pv 1) (pe_ix ix_tup (pv 0) pe_int (fun _ _ => rfl)) (nomark _)))))
      (pss_one (ps_ret (pe_tup (pa_cons pe_int (pa_cons pe_int pa_nil)))))
      pss_nil)
    (pss_cons (ps_set (i := 2) sc_law_at.nd rfl (Or.inl rfl) (pe_call G_law_plus (hr.mono (by decide)) rfl T.g_law_plus T.k_law_plus T.b_law_plus .nil pass0 (pa_cons (pe_ix ix_list (pe_ix ix_tup (pv 0) pe_int (fun _ _ => rfl)) pe_int (fun _ _ => rfl)) (pa_cons (pe_call G_law_times (hr.mono (by decide)) rfl T.g_law_times T.k_law_times T.b_law_times .nil pass0 (pa_cons (pe_ix ix_list (pe_ix ix_tup (pv 0) pe_int (fun _ _ => rfl)) pe_int (fun _ _ => rfl)) (pa_cons (pe_tup (pa_cons (pv 1) (pa_cons pe_int pa_nil))) pa_nil))) pa_nil))))
    (pss_cons (ps_set (i := 2) sc_law_at.nd rfl (Or.inl rfl) (pe_call G_law_plus (hr.mono (by decide)) rfl T.g_law_plus T.k_law_plus T.b_law_plus .nil pass0 (pa_cons (pv 2) (pa_cons (pe_call G_law_times (hr.mono (by decide)) rfl T.g_law_times T.k_law_times T.b_law_times .nil pass0 (pa_cons (pe_ix ix_list (pe_ix ix_tup (pv 0) pe_int (fun _ _ => rfl)) pe_int (fun _ _ => rfl)) (pa_cons (pe_tup (pa_cons (pe_op op_fdivW (pe_op op_mulW (pv 1) (pe_op op_sub (pv 1) pe_int)) pe_int) (pa_cons pe_int pa_nil))) pa_nil))) pa_nil))))
    (pss_cons (ps_if (pt_cmpR op_gt (pe_ix ix_tup (pv 2) pe_int (fun _ _ => rfl)) (pe_ix ix_tup (pv 2) pe_int (fun _ _ => rfl)) (nomark _))
      (pss_one (ps_ret (pe_tup (pa_cons pe_int (pa_cons pe_int pa_nil)))))
      pss_nil)
    (pss_one (ps_ret (pv 2)))))))), ?_⟩
  have two2 : (2 : Nat) ≤ sizeLine := by decide
  refine ⟨_, rfl, rfl, _, rfl, ite2 (fun z => ?_) (fun z => ?_)⟩
  · have z' : q = 0 := V.int.inj (of_decide_eq_true z)
    refine ⟨two2, fun r hr' => k r _ (same_new hr' _) ?_⟩
    have e : x.at q = 0 := by rw [z']; rfl
    rw [e]
    exact upd_same
  have z' : q ≠ 0 := fun y => z (decide_eq_true (congrArg V.int y))
  refine (fun (rest : over x.lim q = false → _) => ⟨_, rfl, p, _, _, _, rfl, rfl, SqT.of hp, rfl, rfl, _, rfl, ifLim (fun e => iteF (rest (by rw [e]; rfl))) (fun l' hl' => ?_)⟩) ?_
  rotate_left
  · have hp' : H p = some (.tup [.ref l, .int l']) := by rw [hp, hl']; rfl
    refine ⟨_, rfl, _, rfl, p, _, _, _, rfl, rfl, SqT.of hp', rfl, _, _, rfl, rfl, _, rfl, ite2 (fun z => ?_) (fun z => ?_)⟩
    · have ov : over x.lim q = true := by
        rw [hl']
        have := of_decide_eq_true z
        exact decide_eq_true (by omega)
      refine ⟨two2, fun r hr' => k r _ (same_new hr' _) ?_⟩
      have e : x.at q = 1 := by
        unfold Bq.at
        rw [if_neg z', if_pos ov]
      rw [e]
      exact upd_same
    · refine rest ?_
      rw [hl']
      have := of_decide_eq_false (Bool.eq_false_iff.mpr z)
      exact decide_eq_false (by omega)
  intro ov
  obtain ⟨s1, s2, s3, s4⟩ := Bq.sz_sum ok q0 sq
  have hpt : ∀ {H' : Hp}, Same H H' → SqT K H' p [.ref l, lV x.lim] := fun m => SqT.of (m _ _ hp)
  have hll : ∀ {H' : Hp}, Same H H' → SqL K H' l [.ref a, .ref b, .ref c] := fun m => SqL.of (m _ _ hl)
  have r0 := Same.refl H
  refine ⟨_, rfl, p, _, _, _, rfl, rfl, hpt r0, rfl, l, _, _, _, rfl, rfl, hll r0, rfl, _, rfl, p, _, _, _, rfl, rfl, hpt r0, rfl, l, _, _, _, rfl, rfl, hll r0, rfl, _, rfl, two2, fun t1 ht1 => ?_⟩
  have m1 := same_new ht1 (.tup [.int q, .int 1])
  have pv1 : PV (upd H t1 (.tup [.int q, .int 1])) t1 290 (q : Rat) := ⟨q, 1, upd_same, by decide, sq.mono (by decide), by decide, fr_int q⟩
  refine ⟨b, t1, _, _, rfl, (p2.same m1).mono (by decide), pv1, fun t2 H2 m2 e2 => ?_⟩
  have m12 := m1.trans m2
  refine ⟨a, t2, _, _, rfl, (p1.same m12).mono (by decide), pv_red e2 (s1.mono (by decide)), fun t3 H3 m3 e3 => ?_⟩
  have m13 := m12.trans m3
  have sq1 : Sm 72 (q - 1) := Sm.mono (sub_lt2 sq (show (1 : Int).natAbs < 2 ^ 64 by decide)) (by decide)
  refine ⟨_, rfl, _, rfl, p, _, _, _, rfl, rfl, hpt m13, rfl, l, _, _, _, rfl, rfl, hll m13, rfl, _, rfl, _, rfl, _, _, rfl, rfl, _, _, rfl, rfl, cmul sq sq1, _, _, rfl, rfl, cdiv (k := 2) (by decide) (by decide), two2, fun t4 ht4 => ?_⟩
  have m4 := same_new ht4 (.tup [.int (q * (q - 1) / 2), .int 1])
  have m14 := m13.trans m4
  have pv4 : PV (upd H3 t4 (.tup [.int (q * (q - 1) / 2), .int 1])) t4 290 ((pairsI q : Int) : Rat) := ⟨pairsI q, 1, upd_same, by decide, (show Sm 128 (pairsI q) from pairs_lt q0 sq).mono (by decide), by decide, fr_int _⟩
  refine ⟨c, t4, _, _, rfl, (p3.same m14).mono (by decide), pv4, fun t5 H5 m5 e5 => ?_⟩
  refine ⟨t3, t5, _, _, rfl, (pv_red e3 (s2.mono (by decide))).same (m4.trans m5), pv_red e5 (s3.mono (by decide)), fun t6 H6 m6 e6 => ?_⟩
  have m16 : Same H H6 := m14.trans (m5.trans m6)
  have e6' : RedAt H6 t6 (x.sum q) := e6
  have d0 := den_pos (x.sum q)
  refine ⟨_, rfl, t6, _, _, _, rfl, rfl, SqT.of e6', rfl, _, rfl, t6, _, _, _, rfl, rfl, SqT.of e6', rfl, _, _, rfl, rfl, _, rfl, ?_⟩
  have one_lt : x.sum q ≤ 1 ↔ ¬ ((x.sum q).den : Int) < (x.sum q).num := by
    rw [← Rat.not_lt, lt_cross]
    show ¬ (1 * ((x.sum q).den : Int) < (x.sum q).num * 1) ↔ _
    rw [Int.one_mul, Int.mul_one]
  refine ite2 (fun y => ?_) (fun y => ?_)
  · have y' := of_decide_eq_true y
    refine ⟨two2, fun r hr' => k r _ (m16.trans (same_new hr' _)) ?_⟩
    have e : x.at q = 1 := by
      unfold Bq.at
      rw [if_neg z', if_neg (by rw [ov]; exact Bool.false_ne_true), if_neg]
      intro h
      exact one_lt.mp (Rat.le_of_lt h) y'
    rw [e]
    exact upd_same
  · have y' := of_decide_eq_false (Bool.eq_false_iff.mpr y)
    refine ⟨_, rfl, k t6 H6 m16 ?_⟩
    have e : x.at q = x.sum q := by
      unfold Bq.at
      rw [if_neg z', if_neg (by rw [ov]; exact Bool.false_ne_true)]
      split
      · rfl
      · rename_i h
        exact Rat.le_antisymm (Rat.not_lt.mp h) (one_lt.mpr y')
    rw [e]
    exact e6'
theorem ok_lwithin (T : Txt K mg) : FnOk P w K mg base CX0 3 T.a_law_within T.fd_law_within ["drawn", "asks"] spLWithin := by
  have G_law_plus : FnOk P w K mg base CX0 2 T.a_law_plus T.fd_law_plus ["one", "other"] (spPair2 fun q r => q + r) := ok_plus T
  have G_law_times : FnOk P w K mg base CX0 2 T.a_law_times T.fd_law_times ["one", "other"] (spPair2 fun q r => q * r) := ok_times T
  refine T.F_law_within.ok sc_law_within (fun vs H Q E h => ?_) (fun cdv A outer s H vs Q E hr h => ?_)
  · obtain ⟨a, x, q, rfl, _⟩ := h
    rfl
  obtain ⟨p, x, n, rfl, ⟨l, a, b, c, hp, hl, p1, p2, p3⟩, ok, n0, sn, k⟩ := h
  refine ⟨_, (pss_cons (ps_if (pt_cmpR op_eq (pv 1) pe_int (nomark _))
      (pss_one (ps_ret (pe_tup (pa_cons (pe_lst (pa_cons (pe_tup (pa_cons pe_int (pa_cons pe_int pa_nil))) (pa_cons (pe_tup (pa_cons pe_int (pa_cons pe_int pa_nil))) (pa_cons (pe_tup (pa_cons pe_int (pa_cons pe_int pa_nil))) pa_nil)))) (pa_cons pe_non pa_nil)))))
      pss_nil)
    (pss_cons (ps_set (i := 2) sc_law_within.nd rfl (Or.inl rfl) (pe_ix ix_tup (pv 0) pe_int (fun _ _ => rfl)))
    (pss_cons (ps_if (pt_cmpR op_notN (pv 2) pe_non (nomark _))
      (pss_one (ps_set (i := 2) sc_law_within.nd rfl (Or.inl rfl) (pe_op op_fdivW (pv 2) (pv 1))))
      pss_nil)
    (pss_cons (ps_set (i := 3) sc_law_within.nd rfl (Or.inl rfl) (pe_ix ix_tup (pv 0) pe_int (fun _ _ => rfl)))
    (pss_cons (ps_set (i := 4) sc_law_within.nd rfl (Or.inl rfl) (pe_call G_law_plus (hr.mono (by decide)) rfl T.g_law_plus T.k_law_plus T.b_law_plus .nil pass0 (pa_cons (pe_call G_law_times (hr.mono (by decide)) rfl T.g_law_times T.k_law_times T.b_law_times .nil pass0 (pa_cons (pe_ix ix_list (pv 3) pe_int (fun _ _ => rfl)) (pa_cons (pe_tup (pa_cons (pv 1) (pa_cons pe_int pa_nil))) pa_nil))) (pa_cons (pe_call G_law_times (hr.mono (by decide)) rfl T.g_law_times T.k_law_times T.b_law_times .nil pass0 (pa_cons (pe_ix ix_list (pv 3) pe_int (fun _ _ => rfl)) (pa_cons (pe_tup (pa_cons (pe_op op_fdivW (pe_op op_mulW (pv 1) (pe_op op_sub (pv 1) pe_int)) pe_int) (pa_cons pe_int pa_nil))) pa_nil))) pa_nil))))
    (pss_one (ps_ret (pe_tup (pa_cons (pe_lst (pa_cons (pe_ix ix_list (pv 3) pe_int (fun _ _ => rfl)) (pa_cons (pv 4) (pa_cons (pe_call G_law_times (hr.mono (by decide)) rfl T.g_law_times T.k_law_times T.b_law_times .nil pass0 (pa_cons (pe_ix ix_list (pv 3) pe_int (fun _ _ => rfl)) (pa_cons (pe_tup (pa_cons (pe_op op_mulW (pv 1) (pv 1)) (pa_cons pe_int pa_nil))) pa_nil))) pa_nil)))) (pa_cons (pv 2) pa_nil)))))))))), ?_⟩
  have two2 : (2 : Nat) ≤ sizeLine := by decide
  have three3 : (3 : Nat) ≤ sizeLine := by decide
  refine ⟨_, rfl, rfl, _, rfl, ite2 (fun z => ?_) (fun z => ?_)⟩
  · have z' : n = 0 := V.int.inj (of_decide_eq_true z)
    refine ⟨two2, fun t1 h1 => ⟨two2, fun t2 h2 => ⟨two2, fun t3 h3 => ⟨three3, fun t4 h4 => ⟨two2, fun t5 h5 => ?_⟩⟩⟩⟩⟩
    have m1 := same_new h1 (.tup [.int 0, .int 1])
    have m2 := same_new h2 (.tup [.int 0, .int 1])
    have m3 := same_new h3 (.tup [.int 0, .int 1])
    have m4 := same_new h4 (.lst [.ref t1, .ref t2, .ref t3])
    have m5 := same_new h5 (.tup [.ref t4, .non])
    refine k t5 _ (m1.trans (m2.trans (m3.trans (m4.trans m5)))) ?_
    have zz : ∀ {H' : Hp} {t : Addr}, H' t = some (.tup [.int 0, .int 1]) → PV H' t 100 0 := fun h => ⟨0, 1, h, by decide, by decide, by decide, fr_int 0⟩
    rw [z']
    exact ⟨t4, t1, t2, t3, upd_same, m5 _ _ upd_same, zz (m5 _ _ (m4 _ _ (m3 _ _ (m2 _ _ upd_same)))), zz (m5 _ _ (m4 _ _ (m3 _ _ upd_same))), zz (m5 _ _ (m4 _ _ upd_same))⟩
  have z' : n ≠ 0 := fun y => z (decide_eq_true (congrArg V.int y))
  have n1 : 0 < n := by omega
  have sni : Sz 10 (n : Rat) := sz_int sn
  have spi : Sz 20 ((pairsI n : Int) : Rat) := sz_int (pairs_lt n0 sn)
  have skk : Sz 20 ((n * n : Int) : Rat) := sz_int (mul_lt2 sn sn)
  have hpt : ∀ {H' : Hp}, Same H H' → SqT K H' p [.ref l, lV x.lim] := fun m => SqT.of (m _ _ hp)
  have hll : ∀ {H' : Hp}, Same H H' → SqL K H' l [.ref a, .ref b, .ref c] := fun m => SqL.of (m _ _ hl)
  have r0 := Same.refl H
  have sq1 : Sm 12 (n - 1) := Sm.mono (sub_lt2 sn (show (1 : Int).natAbs < 2 ^ 10 by decide)) (by decide)
  have ew : x.within n = ⟨x.a, x.b * (n : Rat) + x.c * ((pairsI n : Int) : Rat), x.c * ((n * n : Int) : Rat), x.lim.map (· / n)⟩ := by unfold Bq.within; rw [if_neg z']
  have okw := Bq.within_ok ok n0 sn
  rw [ew] at okw k
  refine ⟨_, rfl, p, _, _, _, rfl, rfl, hpt r0, rfl, ?_⟩
  refine ⟨_, rfl, rfl, _, rfl, ifLim (fun el => ?_) (fun l' el => ?_)⟩
  · have ev : lV x.lim = lV (x.lim.map (· / n)) := by rw [el]; rfl
    have hpn : lV x.lim = V.non := by rw [el]; rfl
    refine ⟨_, rfl, p, _, _, _, rfl, rfl, hpt r0, rfl, ?_⟩
    refine ⟨_, rfl, l, _, _, _, rfl, rfl, hll r0, rfl, _, rfl, two2, fun t1 h1 => ?_⟩
    have m1 := same_new h1 (.tup [.int n, .int 1])
    have pv1 : PV (upd H t1 (.tup [.int n, .int 1])) t1 290 (n : Rat) := ⟨n, 1, upd_same, by decide, sn.mono (by decide), by decide, fr_int n⟩
    refine ⟨b, t1, _, _, rfl, (p2.same m1).mono (by decide), pv1, fun t2 H2 m2 e2 => ?_⟩
    have m12 := m1.trans m2
    refine ⟨_, rfl, l, _, _, _, rfl, rfl, hll m12, rfl, _, rfl, _, rfl, _, _, rfl, rfl, _, _, rfl, rfl, cmul sn sq1, _, _, rfl, rfl, cdiv (k := 2) (by decide) (by decide), two2, fun t3 h3 => ?_⟩
    have m3 := same_new h3 (.tup [.int (n * (n - 1) / 2), .int 1])
    have m13 := m12.trans m3
    have pv3 : PV (upd H2 t3 (.tup [.int (n * (n - 1) / 2), .int 1])) t3 290 ((pairsI n : Int) : Rat) := ⟨pairsI n, 1, upd_same, by decide, (show Sm 20 (pairsI n) from pairs_lt n0 sn).mono (by decide), by decide, fr_int _⟩
    refine ⟨c, t3, _, _, rfl, (p3.same m13).mono (by decide), pv3, fun t4 H4 m4 e4 => ?_⟩
    refine ⟨t2, t4, _, _, rfl, (pv_red e2 ((sz_mul p2.sz sni).mono (by decide))).same (m3.trans m4), pv_red e4 ((sz_mul p3.sz spi).mono (by decide)), fun t5 H5 m5 e5 => ?_⟩
    have m15 := m13.trans (m4.trans m5)
    refine ⟨_, rfl, l, _, _, _, rfl, rfl, hll m15, rfl, _, rfl, _, rfl, l, _, _, _, rfl, rfl, hll m15, rfl, _, rfl, _, rfl, _, _, rfl, rfl, cmul sn sn, two2, fun t6 h6 => ?_⟩
    have m6 := same_new h6 (.tup [.int (n * n), .int 1])
    have m16 := m15.trans m6
    have pv6 : PV (upd H5 t6 (.tup [.int (n * n), .int 1])) t6 290 ((n * n : Int) : Rat) := ⟨n * n, 1, upd_same, by decide, (show Sm 20 (n * n) from mul_lt2 sn sn).mono (by decide), by decide, fr_int _⟩
    refine ⟨c, t6, _, _, rfl, (p3.same m16).mono (by decide), pv6, fun t7 H7 m7 e7 => ?_⟩
    refine ⟨three3, fun t8 h8 => ⟨_, rfl, two2, fun t9 h9 => ?_⟩⟩
    have m8 := same_new h8 (.lst [.ref a, .ref t5, .ref t7])
    have m9 := same_new h9 (.tup [.ref t8, lV x.lim])
    refine k t9 _ (m16.trans (m7.trans (m8.trans m9))) ?_
    refine ⟨t8, a, t5, t7, ?_, m9 _ _ upd_same, (((p1.same m16).same (m7.trans (m8.trans m9))).mono (by decide)), (pv_red e5 okw.bz).same (m6.trans (m7.trans (m8.trans m9))), (pv_red e7 okw.cz).same (m8.trans m9)⟩
    show _ = some (HO.tup [V.ref t8, lV (x.lim.map (· / n))])
    rw [← ev]
    exact upd_same
  · have ev : V.int (l' / n) = lV (x.lim.map (· / n)) := by rw [el]; rfl
    have e0 : lV x.lim = .int l' := by rw [el]; rfl
    refine ⟨_, rfl, _, rfl, _, _, e0, rfl, cdiv n1 sn, ?_⟩
    refine ⟨_, rfl, p, _, _, _, rfl, rfl, hpt r0, rfl, ?_⟩
    refine ⟨_, rfl, l, _, _, _, rfl, rfl, hll r0, rfl, _, rfl, two2, fun t1 h1 => ?_⟩
    have m1 := same_new h1 (.tup [.int n, .int 1])
    have pv1 : PV (upd H t1 (.tup [.int n, .int 1])) t1 290 (n : Rat) := ⟨n, 1, upd_same, by decide, sn.mono (by decide), by decide, fr_int n⟩
    refine ⟨b, t1, _, _, rfl, (p2.same m1).mono (by decide), pv1, fun t2 H2 m2 e2 => ?_⟩
    have m12 := m1.trans m2
    refine ⟨_, rfl, l, _, _, _, rfl, rfl, hll m12, rfl, _, rfl, _, rfl, _, _, rfl, rfl, _, _, rfl, rfl, cmul sn sq1, _, _, rfl, rfl, cdiv (k := 2) (by decide) (by decide), two2, fun t3 h3 => ?_⟩
    have m3 := same_new h3 (.tup [.int (n * (n - 1) / 2), .int 1])
    have m13 := m12.trans m3
    have pv3 : PV (upd H2 t3 (.tup [.int (n * (n - 1) / 2), .int 1])) t3 290 ((pairsI n : Int) : Rat) := ⟨pairsI n, 1, upd_same, by decide, (show Sm 20 (pairsI n) from pairs_lt n0 sn).mono (by decide), by decide, fr_int _⟩
    refine ⟨c, t3, _, _, rfl, (p3.same m13).mono (by decide), pv3, fun t4 H4 m4 e4 => ?_⟩
    refine ⟨t2, t4, _, _, rfl, (pv_red e2 ((sz_mul p2.sz sni).mono (by decide))).same (m3.trans m4), pv_red e4 ((sz_mul p3.sz spi).mono (by decide)), fun t5 H5 m5 e5 => ?_⟩
    have m15 := m13.trans (m4.trans m5)
    refine ⟨_, rfl, l, _, _, _, rfl, rfl, hll m15, rfl, _, rfl, _, rfl, l, _, _, _, rfl, rfl, hll m15, rfl, _, rfl, _, rfl, _, _, rfl, rfl, cmul sn sn, two2, fun t6 h6 => ?_⟩
    have m6 := same_new h6 (.tup [.int (n * n), .int 1])
    have m16 := m15.trans m6
    have pv6 : PV (upd H5 t6 (.tup [.int (n * n), .int 1])) t6 290 ((n * n : Int) : Rat) := ⟨n * n, 1, upd_same, by decide, (show Sm 20 (n * n) from mul_lt2 sn sn).mono (by decide), by decide, fr_int _⟩
    refine ⟨c, t6, _, _, rfl, (p3.same m16).mono (by decide), pv6, fun t7 H7 m7 e7 => ?_⟩
    refine ⟨three3, fun t8 h8 => ⟨_, rfl, two2, fun t9 h9 => ?_⟩⟩
    have m8 := same_new h8 (.lst [.ref a, .ref t5, .ref t7])
    have m9 := same_new h9 (.tup [.ref t8, V.int (l' / n)])
    refine k t9 _ (m16.trans (m7.trans (m8.trans m9))) ?_
    refine ⟨t8, a, t5, t7, ?_, m9 _ _ upd_same, (((p1.same m16).same (m7.trans (m8.trans m9))).mono (by decide)), (pv_red e5 okw.bz).same (m6.trans (m7.trans (m8.trans m9))), (pv_red e7 okw.cz).same (m8.trans m9)⟩
    show _ = some (HO.tup [V.ref t8, lV (x.lim.map (· / n))])
    rw [← ev]
    exact upd_same
end
end Toy
set_option Elab.async false
set_option linter.all false
set_option maxRecDepth 100000
set_option maxHeartbeats 4000000
namespace Toy
open PySem L2 Mine
open Gm (ixlK ixtK)
theorem red_keep {H H' : Hp} {p : Addr} {q : Rat} (e : Keep H H') (h : RedAt H p q) : RedAt H' p q := e _ _ h (fun _ z => nomatch z)
theorem sel3i {H : Hp} {a b c : Addr} {k : Nat} {x : Bq} (h1 : PV H a k x.a) (h2 : PV H b k x.b) (h3 : PV H c k x.c) {i : Nat} (hi : i < 3) : ∃ p, atI ([.ref a, .ref b, .ref c] : List V) (0 + (i : Int)) = some (.ref p) ∧ PV H p k (Bq.sel x i) := by
  have : i = 0 ∨ i = 1 ∨ i = 2 := by omega
  rcases this with rfl | rfl | rfl
  · exact ⟨a, rfl, h1⟩
  · exact ⟨b, rfl, h2⟩
  · exact ⟨c, rfl, h3⟩
theorem sel_plus (x y : Bq) (i : Nat) : Bq.sel (x.plus y) i = Bq.sel x i + Bq.sel y i := by
  unfold Bq.sel
  split <;> rfl
theorem scal_l (l : Option Int) : scal (lV l) (lV l) = true := by cases l <;> rfl
/-- what stands in a list of limits -/
def lims (l : List (Option Int)) : List Int := l.filterMap id
theorem lims_min (x y : Option Int) : (lims [x, y] = [] ∧ lmin x y = none) ∨ (0 < (lims [x, y]).length ∧ ∀ m, m ∈ lims [x, y] → (∀ z, z ∈ lims [x, y] → m ≤ z) → lmin x y = some m) := by
  cases x with
  | none => cases y with
    | none => exact .inl ⟨rfl, rfl⟩
    | some b => exact .inr ⟨by simp [lims], fun m hm _ => by simp [lims] at hm; rw [hm]; rfl⟩
  | some a => cases y with
    | none => exact .inr ⟨by simp [lims], fun m hm _ => by simp [lims] at hm; rw [hm]; rfl⟩
    | some b =>
      refine .inr ⟨by simp [lims], fun m hm h => ?_⟩
      have h1 := h a (by simp [lims])
      have h2 := h b (by simp [lims])
      simp [lims] at hm
      show some (min a b) = some m
      congr 1
      omega
section
variable {P : Program} {w : World} {K : PySem.W.Frag} {mg : Str → Option Value} {base : Heap}
theorem ok_plusof (T : Txt K mg) : FnOk P w K mg base CX0 3 T.a_law_plus_of T.fd_law_plus_of ["one", "other"] spPlusOf := by
  have G_law_plus : FnOk P w K mg base CX0 2 T.a_law_plus T.fd_law_plus ["one", "other"] (spPair2 fun q r => q + r) := ok_plus T
  refine T.F_law_plus_of.ok sc_law_plus_of (fun vs H Q E h => ?_) (fun cdv A outer s H vs Q E hr h => ?_)
  · obtain ⟨a, b, x, y, rfl, _⟩ := h
    rfl
  obtain ⟨p, q, x, y, rfl, ⟨l, a, b, c, hp, hl, p1, p2, p3⟩, ⟨l', a', b', c', hq, hl', q1, q2, q3⟩, okx, oky, k⟩ := h
  refine ⟨_, (pss_cons (ps_setLc (i := 2) (own := [("drawn", 3)]) (g := gName 3) rfl sc_law_plus_of.nd rfl rfl (sw_true rfl rfl rfl (by decide +kernel)) (pi_tup (pe_tup (pa_cons (pv 0) (pa_cons (pv 1) pa_nil)))) (blkOk_by (own := [("drawn", 3)]) (N := ["one", "other", "limits", "drawn", "limit", "k"]) (sc := defScope s_law_plus_of) (by decide +kernel)) (fun _ _ _ _ _ => pg_name (i := 3) sc_law_plus_of.nd rfl (Or.inl rfl)) (fun _ _ _ _ _ => pts_one (pt_cmpR op_notN (pe_ix (ixtK K rfl) (pv 3) pe_int (fun _ _ => rfl)) pe_non (nomark _))) (fun _ _ _ _ _ => (pe_ix (ixtK K rfl) (pv 3) pe_int (fun _ _ => rfl))))
    (pss_cons (ps_set (i := 4) sc_law_plus_of.nd rfl (Or.inl rfl) pe_non)
    (pss_cons (ps_if (pt_cmpR op_gt (pe_callB call_len_seq (by rfl) T.z_len (by decide +kernel) (pa_cons (pv 2) pa_nil)) pe_int (nomark _))
      (pss_one (ps_set (i := 4) sc_law_plus_of.nd rfl (Or.inl rfl) (pe_callB (cr_min rfl) (by rfl) T.z_min (by decide +kernel) (pa_cons (pv 2) pa_nil))))
      pss_nil)
    (pss_one (ps_ret (pe_tup (pa_cons (pe_lc (own := [("k", 5)]) (g := gName 5) (tt := tYes) rfl sc_law_plus_of.nd (pi_range1 (by rfl) T.z_range (pa_cons pe_int pa_nil)) (blkOk_by (own := [("k", 5)]) (N := ["one", "other", "limits", "drawn", "limit", "k"]) (sc := defScope s_law_plus_of) (by decide +kernel)) (fun _ _ _ _ _ => pg_name (i := 5) sc_law_plus_of.nd rfl (Or.inl rfl)) (fun _ _ _ _ _ => pts_nil) (fun _ _ _ _ _ => (pe_call G_law_plus (hr.mono (by decide)) rfl T.g_law_plus T.k_law_plus T.b_law_plus .nil pass0 (pa_cons (pe_ix (ixlK K rfl) (pe_ix (ixtK K rfl) (pv 0) pe_int (fun _ _ => rfl)) (pv 5) (fun _ _ => rfl)) (pa_cons (pe_ix (ixlK K rfl) (pe_ix (ixtK K rfl) (pv 1) pe_int (fun _ _ => rfl)) (pv 5) (fun _ _ => rfl)) pa_nil))))) (pa_cons (pv 4) pa_nil)))))))), ?_⟩
  have two2 : (2 : Nat) ≤ sizeLine := by decide
  refine ⟨_, rfl, _, rfl, two2, fun t ht => ⟨t, rfl, ⟨_, SqT.of upd_same⟩, fun D hD => ?_⟩⟩
  have m0 := same_new ht (.tup [.ref p, .ref q])
  refine lc_tup (K := K) (a := t) (xs := [.ref p, .ref q]) (fun i H' => Same H H' ∧ H' t = some (.tup [.ref p, .ref q]) ∧ H' D = some (.lst ((lims (([x.lim, y.lim] : List (Option Int)).take i)).map V.int))) ⟨m0.trans (same_new hD _), same_new hD _ _ _ upd_same, upd_same⟩ (fun i H' _ h => SqT.of h.2.1) ?_ ?_
  · have put : ∀ (z : Addr) (zl : Addr) (lim : Option Int) (i : Nat) (H' : Hp), H z = some (.tup [.ref zl, lV lim]) → Same H H' → H' t = some (.tup [.ref p, .ref q]) → H' D = some (.lst ((lims (([x.lim, y.lim] : List (Option Int)).take i)).map V.int)) → i < 2 →
        lims (([x.lim, y.lim] : List (Option Int)).take (i + 1)) = lims (([x.lim, y.lim] : List (Option Int)).take i) ++ lims [lim] → ∀ (L : Option Int), L = lim → SqT K H' z [.ref zl, lV L] := fun z zl lim i H' hz m _ _ _ _ L e => by rw [e]; exact SqT.of (m _ _ hz)
    rintro i v H2 hv ⟨m, hT, hL⟩
    have len9 : (lims (([x.lim, y.lim] : List (Option Int)).take i)).length ≤ 2 := by
      refine Nat.le_trans (List.length_filterMap_le _ _) ?_
      rw [List.length_take]
      exact Nat.min_le_right _ _
    have grow : ∀ lim : Option Int, lims (([x.lim, y.lim] : List (Option Int)).take (i + 1)) = lims (([x.lim, y.lim] : List (Option Int)).take i) ++ lims [lim] →
        (lim = none → Same H H2 ∧ H2 t = some (.tup [.ref p, .ref q]) ∧ H2 D = some (.lst ((lims (([x.lim, y.lim] : List (Option Int)).take (i + 1))).map V.int))) ∧
        (∀ n, lim = some n → ∃ acc, H2 D = some (.lst acc) ∧ acc.length < sizeLine ∧ Same H (upd H2 D (.lst (acc ++ [V.int n]))) ∧ (upd H2 D (.lst (acc ++ [V.int n]))) t = some (.tup [.ref p, .ref q]) ∧ (upd H2 D (.lst (acc ++ [V.int n]))) D = some (.lst ((lims (([x.lim, y.lim] : List (Option Int)).take (i + 1))).map V.int))) := by
      intro lim e
      refine ⟨fun z => ⟨m, hT, ?_⟩, fun n z => ⟨_, hL, ?_, fun b o g => ?_, ?_, ?_⟩⟩
      · rw [e, z]
        show H2 D = some (.lst ((_ ++ []).map V.int))
        rw [List.append_nil]
        exact hL
      · rw [List.length_map]
        exact Nat.lt_of_le_of_lt len9 (by decide)
      · have : b ≠ D := fun y => by
          have h1 := m0 _ _ g
          rw [y, hD] at h1
          cases h1
        rw [upd_ne this]
        exact m _ _ g
      · rw [upd_ne (ne_of hT hL (by intro z; cases z))]
        exact hT
      · rw [upd_same, e, z, List.map_append]
        rfl
    match i, hv with
    | 0, hv =>
      cases hv
      obtain ⟨g1, g2⟩ := grow x.lim (by cases x.lim <;> rfl)
      refine ⟨rfl, _, rfl, p, _, _, _, rfl, rfl, SqT.of (m _ _ hp), rfl, rfl, _, rfl, ifLim (fun e => g1 e) (fun n e => ?_)⟩
      have hp' : H2 p = some (.tup [.ref l, .int n]) := by rw [m _ _ hp, e]; rfl
      exact ⟨_, rfl, p, _, _, _, rfl, rfl, SqT.of hp', rfl, g2 n e⟩
    | 1, hv =>
      cases hv
      obtain ⟨g1, g2⟩ := grow y.lim (by cases x.lim <;> cases y.lim <;> rfl)
      refine ⟨rfl, _, rfl, q, _, _, _, rfl, rfl, SqT.of (m _ _ hq), rfl, rfl, _, rfl, ifLim (fun e => g1 e) (fun n e => ?_)⟩
      have hp' : H2 q = some (.tup [.ref l', .int n]) := by rw [m _ _ hq, e]; rfl
      exact ⟨_, rfl, q, _, _, _, rfl, rfl, SqT.of hp', rfl, g2 n e⟩
  rintro H2 ⟨m, hT, hL⟩
  have hL' : H2 D = some (.lst ((lims [x.lim, y.lim]).map V.int)) := hL
  have fin : ∀ lv : V, lv = lV (lmin x.lim y.lim) → ∀ (D2 : Addr) (H4 : Hp) (us : List V) (t2 : Addr), It (fun H a j => RedAt H a (Bq.sel (x.plus y) j)) H2 H4 D2 us → us.length = 3 → H4 t2 = none → Q (.ref t2) (upd H4 t2 (.tup [.ref D2, lv])) := by
    intro lv e D2 H4 us t2 it hu h2
    obtain ⟨v1, v2, v3, rfl⟩ := three_of hu
    obtain ⟨a1, rfl, A1⟩ := it.e 0 v1 rfl
    obtain ⟨a2, rfl, A2⟩ := it.e 1 v2 rfl
    obtain ⟨a3, rfl, A3⟩ := it.e 2 v3 rfl
    have m5 := same_new h2 (.tup [.ref D2, lv])
    have okp := Bq.plus_ok okx oky
    refine k t2 _ (m.trans (it.s.trans m5)) ⟨D2, a1, a2, a3, ?_, m5 _ _ it.l, pv_red (red_same A1 m5) (okp.az.mono (by decide)), pv_red (red_same A2 m5) (okp.bz.mono (by decide)), pv_red (red_same A3 m5) (okp.cz.mono (by decide))⟩
    rw [e]
    exact upd_same
  have comp : ∀ (D2 : Addr) (i : Nat) (H3 : Hp), i < 3 → Same H2 H3 → ∃ r s : Addr, (SqT K H3 p [.ref l, lV x.lim] ∧ SqL K H3 l [.ref a, .ref b, .ref c] ∧ atI ([.ref a, .ref b, .ref c] : List V) (0 + (i : Int)) = some (.ref r)) ∧ (SqT K H3 q [.ref l', lV y.lim] ∧ SqL K H3 l' [.ref a', .ref b', .ref c'] ∧ atI ([.ref a', .ref b', .ref c'] : List V) (0 + (i : Int)) = some (.ref s)) ∧
      PV H3 r 290 (Bq.sel x i) ∧ PV H3 s 290 (Bq.sel y i) := by
    intro D2 i H3 hi m3
    obtain ⟨r, er, hr'⟩ := sel3i p1 p2 p3 hi
    obtain ⟨s, es, hs'⟩ := sel3i q1 q2 q3 hi
    have mm := m.trans m3
    exact ⟨r, s, ⟨SqT.of (mm _ _ hp), SqL.of (mm _ _ hl), er⟩, ⟨SqT.of (mm _ _ hq), SqL.of (mm _ _ hl'), es⟩, (hr'.same mm).mono (by decide), (hs'.same mm).mono (by decide)⟩
  have mon : Mon (fun H a j => RedAt H a (Bq.sel (x.plus y) j)) := fun H H' a j e h => red_keep e h
  refine ⟨_, rfl, D, _, rfl, .inl (SqL.of hL'), _, _, rfl, rfl, _, rfl, ite2 (fun z => ?_) (fun z => ?_)⟩
  · have z' := of_decide_eq_true z
    rw [List.length_map] at z'
    rcases lims_min x.lim y.lim with ⟨e1, _⟩ | ⟨e1, e2⟩
    · rw [e1] at z'
      exact absurd z' (by decide)
    refine ⟨_, rfl, D, _, rfl, SqL.of hL', e1, fun n hn hle => ?_⟩
    have ev : V.int n = lV (lmin x.lim y.lim) := by rw [e2 n hn hle]; rfl
    refine ⟨_, rfl, by decide, by decide, fun D2 hD2 => ?_⟩
    refine lc_range (lo := 0) (n := 3) (fun i H' => ∃ us, It (fun H a j => RedAt H a (Bq.sel (x.plus y) j)) H2 H' D2 us ∧ us.length = i) ⟨[], It.start hD2, rfl⟩ ?_ ?_
    · rintro i H3 hi ⟨us, it, hu⟩
      obtain ⟨r, s, ⟨c1, c2, c3⟩, ⟨c4, c5, c6⟩, c7, c8⟩ := comp D2 i H3 hi it.s
      refine ⟨rfl, _, rfl, p, _, _, _, rfl, rfl, c1, rfl, _, rfl, l, _, _, _, rfl, rfl, c2, c3, _, rfl, q, _, _, _, rfl, rfl, c4, rfl, _, rfl, l', _, _, _, rfl, rfl, c5, c6, r, s, _, _, rfl, c7, c8, fun u H4 m4 e4 => ?_⟩
      have it' := it.grow mon m4
      subst hu
      exact ⟨us, it'.l, Nat.lt_of_lt_of_le (show us.length < 4 by omega) (by decide), us ++ [.ref u], it'.add mon (by rw [sel_plus]; exact e4), by rw [List.length_append]; rfl⟩
    rintro H3 ⟨us, it, hu⟩
    exact ⟨_, rfl, two2, fun t2 h2 => fin _ ev D2 H3 us t2 it hu h2⟩
  · have ev : V.non = lV (lmin x.lim y.lim) := by
      rcases lims_min x.lim y.lim with ⟨_, e2⟩ | ⟨e1, e2⟩
      · rw [e2]; rfl
      · refine absurd (decide_eq_true ?_) z
        rw [List.length_map]
        omega
    refine ⟨_, rfl, by decide, by decide, fun D2 hD2 => ?_⟩
    refine lc_range (lo := 0) (n := 3) (fun i H' => ∃ us, It (fun H a j => RedAt H a (Bq.sel (x.plus y) j)) H2 H' D2 us ∧ us.length = i) ⟨[], It.start hD2, rfl⟩ ?_ ?_
    · rintro i H3 hi ⟨us, it, hu⟩
      obtain ⟨r, s, ⟨c1, c2, c3⟩, ⟨c4, c5, c6⟩, c7, c8⟩ := comp D2 i H3 hi it.s
      refine ⟨rfl, _, rfl, p, _, _, _, rfl, rfl, c1, rfl, _, rfl, l, _, _, _, rfl, rfl, c2, c3, _, rfl, q, _, _, _, rfl, rfl, c4, rfl, _, rfl, l', _, _, _, rfl, rfl, c5, c6, r, s, _, _, rfl, c7, c8, fun u H4 m4 e4 => ?_⟩
      have it' := it.grow mon m4
      subst hu
      exact ⟨us, it'.l, Nat.lt_of_lt_of_le (show us.length < 4 by omega) (by decide), us ++ [.ref u], it'.add mon (by rw [sel_plus]; exact e4), by rw [List.length_append]; rfl⟩
    rintro H3 ⟨us, it, hu⟩
    exact ⟨_, rfl, two2, fun t2 h2 => fin _ ev D2 H3 us t2 it hu h2⟩
theorem ok_told (T : Txt K mg) : FnOk P w K mg base CX0 2 T.a_law_told T.fd_law_told ["drawn"] spTold := by
  have G_law_less : FnOk P w K mg base CX0 1 T.a_law_less T.fd_law_less ["num", "den"] spLess := ok_less T
  refine T.F_law_told.ok sc_law_told (fun vs H Q E h => ?_) (fun cdv A outer s H vs Q E hr h => ?_)
  · obtain ⟨a, x, rfl, _⟩ := h
    rfl
  obtain ⟨p, x, rfl, ⟨l, a, b, c, hp, hl, p1, p2, p3⟩, k⟩ := h
  refine ⟨_, (pss_one (ps_ret (pe_tup (pa_cons (pe_lc (own := [("pair", 1)]) (g := gName 1) (tt := tYes) rfl sc_law_told.nd (pi_list (pe_ix ix_tup (pv 0) pe_int (fun _ _ => rfl))) (blkOk_by (own := [("pair", 1)]) (N := ["drawn", "pair"]) (sc := defScope s_law_told) (by decide +kernel)) (fun _ _ _ _ _ => pg_name (i := 1) sc_law_told.nd rfl (Or.inl rfl)) (fun _ _ _ _ _ => pts_nil) (fun _ _ _ _ _ => (pe_call G_law_less (hr.mono (by decide)) rfl T.g_law_less T.k_law_less T.b_law_less .nil pass0 (pa_cons (pe_ix (ixtK K rfl) (pv 1) pe_int (fun _ _ => rfl)) (pa_cons (pe_ix (ixtK K rfl) (pv 1) pe_int (fun _ _ => rfl)) pa_nil))))) (pa_cons (pe_ix ix_tup (pv 0) pe_int (fun _ _ => rfl)) pa_nil))))), ?_⟩
  have two2 : (2 : Nat) ≤ sizeLine := by decide
  have mon : Mon (fun H a j => RedAt H a (Bq.sel x j)) := fun H H' a j e h => red_keep e h
  refine ⟨_, rfl, p, _, _, _, rfl, rfl, SqT.of hp, rfl, l, rfl, ⟨_, SqL.of hl⟩, fun D hD => ?_⟩
  refine lc_list (K := K) (a := l) (xs := [.ref a, .ref b, .ref c]) (fun i H' => ∃ us, It (fun H a j => RedAt H a (Bq.sel x j)) H H' D us ∧ us.length = i) ⟨[], It.start hD, rfl⟩ (fun i H' _ ⟨_, q, _⟩ => SqL.of (q.s _ _ hl)) ?_ ?_
  · rintro i y H2 hy ⟨us, it, hu⟩
    have hi : i < 3 := (List.getElem?_eq_some_iff.mp hy).1
    obtain ⟨r, rfl, n, d, hr0, d0, sn, sd, eq⟩ := sel3 p1 p2 p3 hy
    have hr2 := it.s _ _ hr0
    refine ⟨rfl, _, rfl, r, _, _, _, rfl, rfl, SqT.of hr2, rfl, _, rfl, r, _, _, _, rfl, rfl, SqT.of hr2, rfl, n, d, rfl, d0, sn.mono (by decide), sd.mono (by decide), fun u H3 m3 e3 => ?_⟩
    have it' := it.grow mon m3
    rw [eq] at e3
    subst hu
    exact ⟨us, it'.l, Nat.lt_of_lt_of_le (show us.length < 4 by omega) (by decide), us ++ [.ref u], it'.add mon e3, by rw [List.length_append]; rfl⟩
  rintro H2 ⟨us, it, hu⟩
  obtain ⟨v1, v2, v3, rfl⟩ := three_of hu
  obtain ⟨a1, rfl, A1⟩ := it.e 0 v1 rfl
  obtain ⟨a2, rfl, A2⟩ := it.e 1 v2 rfl
  obtain ⟨a3, rfl, A3⟩ := it.e 2 v3 rfl
  refine ⟨_, rfl, p, _, _, _, rfl, rfl, SqT.of (it.s _ _ hp), rfl, two2, fun t2 h2 => ?_⟩
  have m5 := same_new h2 (.tup [.ref D, lV x.lim])
  exact k t2 _ (it.s.trans m5) ⟨D, a1, a2, a3, upd_same, m5 _ _ it.l, red_same A1 m5, red_same A2 m5, red_same A3 m5⟩
/-! ### a refused bound -/
def tb_ref (CB CR B : Addr) : WX → TS := fun W => tDrop (tMakeS CB (spBInit CB CR B) (WE W) (tCons (tVar 0) (tCons (tVar 1) (tCons (tVar 2) (tCons (tVar 3) tNil)))))
def ts_ref (K : PySem.W.Frag) {mg : Str → Option Value} (T : Txt K mg) : Addr → Value → Option Addr → TS := fun a cls d =>
  tRet (tAndV (tCB (rIsE1 K T.C_BadBound a cls d) (tCons (tVar 4) (tCons (tC (.ref T.C_BadBound)) tNil))) (tNotV (tCB (rIsE1 K T.C_BadBound a cls d) (tCons (tVar 4) (tCons (tC (.ref T.C_BadStep)) tNil)))))
theorem ok_refused (T : Txt K mg) : FnOk P w K mg base CX0 3 T.a_law_refused T.fd_law_refused ["flat", "first", "more", "limit"] (spRefused T.C_Ratio) := by
  have G_Bound_init : FnOk P w K mg base (L2.CX P w) 1 T.a_Bound_init T.fd_Bound_init ["self", "flat", "first", "more", "limit"] (spBInit T.C_Bound T.C_Ratio T.C_BadBound) := ok_binit T
  refine T.F_law_refused.ok sc_law_refused (fun vs H Q E h => ?_) (fun cdv A outer s H vs Q E hr h => ?_)
  · obtain ⟨a, b, c, x, rfl, _⟩ := h
    rfl
  obtain ⟨a, b, c, x, rfl, h1, h2, h3, hno, q⟩ := h
  refine ⟨_, (pss_cons (ps_try_as (i := 4) (tb := tb_ref T.C_Bound T.C_Ratio T.C_BadBound) (ts := ts_ref K T) (Wout := fun _ _ _ _ => False) rfl rfl sc_law_refused.nd rfl rfl ⟨rfl, by decide, Or.inl T.g_PlayError⟩ takes0
      (fun W pn xe tk _ => pss_one (ps_expr (by exact (pe_makeS T.mk_Bound G_Bound_init (hr.mono (by decide)) rfl T.g_Bound T.b_Bound_init (fun σ => passAt tk σ) (by exact (pa_cons (pv 0) (pa_cons (pv 1) (pa_cons (pv 2) (pa_cons (pv 3) pa_nil)))))))))
      (fun a oe cls d pn hz hf => by exact (pss_one (ps_ret (pe_and (pe_callB (call_isE1 T.ec_BadBound hz hf) (by rfl) T.z_isinstance (by decide +kernel) (pa_cons (pv 4) (pa_cons (pe_glob (v := .ref T.C_BadBound) rfl T.g_BadBound rfl) pa_nil))) (pe_one (pe_not (pe_callB (call_isE1 T.ec_BadBound hz hf) (by rfl) T.z_isinstance (by decide +kernel) (pa_cons (pv 4) (pa_cons (pe_glob (v := .ref T.C_BadStep) rfl T.g_BadStep rfl) pa_nil))))))))))
    (pss_one (ps_ret pe_bl))), ?_⟩
  refine ⟨_, rfl, _, rfl, _, rfl, _, rfl, fun y dy ny nd ne => ?_⟩
  have sm : Same H (upd (upd H dy (.own y)) y (.ins T.C_Bound dy [])) := same_make ny nd
  refine ⟨y, dy, a, b, c, x, rfl, upd_same, h1.same sm, h2.same sm, h3.same sm, fun _ => ?_, fun z => absurd z hno⟩
  refine ⟨true, PySem.W.exm_ref T.xb_PlayError T.xd_PlayError T.xt_PlayError T.sub_bp, fun _ a na => ?_, fun z => Bool.noConfusion z⟩
  refine ⟨_, rfl, _, _, true, rfl, rfl, rfl, fun u r => r, T.ki_b, true, rfl, iteT ?_⟩
  refine ⟨_, rfl, _, _, false, rfl, rfl, rfl, fun u r => r, T.ki_s, false, rfl, ?_⟩
  exact q _ sm
end
end Toy
set_option Elab.async false
set_option linter.all false
set_option maxRecDepth 100000
set_option maxHeartbeats 4000000
namespace Toy
open PySem L2 Mine
open Gm (ixlK ixtK)
theorem ints_of (n : Nat) (ms : List Int) : ((List.range n).map fun i => V.int (i : Nat)) ++ ms.map V.int = (((List.range n).map fun i : Nat => Int.ofNat i) ++ ms).map V.int := by
  rw [List.map_append, List.map_map]
  rfl
section
variable {P : Program} {w : World} {K : PySem.W.Frag} {mg : Str → Option Value} {base : Heap}
theorem ok_is (T : Txt K mg) : FnOk P w K mg base CX0 6 T.a_law_is T.fd_law_is ["actual", "due", "wide"] (spIs T.C_Bound T.C_Ratio) := by
  have G_law_less : FnOk P w K mg base CX0 1 T.a_law_less T.fd_law_less ["num", "den"] spLess := ok_less T
  have G_law_made : FnOk P w K mg base CX0 3 T.a_law_made T.fd_law_made ["drawn"] (spMade T.C_Bound T.C_Ratio) := ok_made T
  have G_law_at : FnOk P w K mg base CX0 3 T.a_law_at T.fd_law_at ["drawn", "calls"] spLAt := ok_lat T
  have G_Bound_at : FnOk P w K mg base CX0 5 T.a_Bound_at T.fd_Bound_at ["self", "calls"] (spBAt T.C_Bound T.C_Ratio) := ok_bat T
  have G_Bound_eq : FnOk P w K mg base CX0 2 T.a_Bound_eq T.fd_Bound_eq ["self", "other"] (spBEq T.C_Bound T.C_Ratio) := ok_beq T
  refine T.F_law_is.ok sc_law_is (fun vs H Q E h => ?_) (fun cdv A outer s H vs Q E hr h => ?_)
  · obtain ⟨a, b, x, wd, rfl, _⟩ := h
    rfl
  obtain ⟨p, d, x, wd, rfl, BB, DD, ok, w0, sw, k⟩ := h
  refine ⟨_, (pss_cons (ps_for PassesOwn.never rfl (pi_tup (pe_tup (pa_cons (pe_tup (pa_cons (pe_fld (pv 0) rfl) (pa_cons (pe_ix ix_list (pe_ix ix_tup (pv 1) pe_int (fun _ _ => rfl)) pe_int (fun _ _ => rfl)) pa_nil))) (pa_cons (pe_tup (pa_cons (pe_fld (pv 0) rfl) (pa_cons (pe_ix ix_list (pe_ix ix_tup (pv 1) pe_int (fun _ _ => rfl)) pe_int (fun _ _ => rfl)) pa_nil))) (pa_cons (pe_tup (pa_cons (pe_fld (pv 0) rfl) (pa_cons (pe_ix ix_list (pe_ix ix_tup (pv 1) pe_int (fun _ _ => rfl)) pe_int (fun _ _ => rfl)) pa_nil))) pa_nil))))) (pg_name (i := 3) sc_law_is.nd rfl (Or.inl rfl))
      (pss_one (ps_if (pt_cmpR (op_neD hr.units) (pe_tup (pa_cons (pe_fld (pe_ix ix_tup (pv 3) pe_int (fun _ _ => rfl)) rfl) (pa_cons (pe_fld (pe_ix ix_tup (pv 3) pe_int (fun _ _ => rfl)) rfl) pa_nil))) (pe_call G_law_less (hr.mono (by decide)) rfl T.g_law_less T.k_law_less T.b_law_less .nil pass0 (pa_cons (pe_ix ix_tup (pe_ix ix_tup (pv 3) pe_int (fun _ _ => rfl)) pe_int (fun _ _ => rfl)) (pa_cons (pe_ix ix_tup (pe_ix ix_tup (pv 3) pe_int (fun _ _ => rfl)) pe_int (fun _ _ => rfl)) pa_nil))) (nomark _))
      (pss_one (ps_ret pe_bl))
      pss_nil)))
    (pss_cons (ps_if (PW.pt (pw_or (pt_cmpR op_ne (pe_fld (pv 0) rfl) (pe_ix ix_tup (pv 1) pe_int (fun _ _ => rfl)) (nomark _)) (pw_or1 (pt_not (pt_cmpR (op_ownEq G_Bound_eq (hr.mono (by decide)) T.b_Bound_eq pass0 T.m_Bound_eq.at_ T.m_Bound_eq.fn) (pv 0) (pe_call G_law_made (hr.mono (by decide)) rfl T.g_law_made T.k_law_made T.b_law_made .nil pass0 (pa_cons (pv 1) pa_nil)) (nomark _))))))
      (pss_one (ps_ret pe_bl))
      pss_nil)
    (pss_cons (ps_for PassesOwn.never rfl (pi_list (pe_op op_cat (pe_callTy (call_list_rng rfl) (by rfl) T.z_list (by decide +kernel) (pa_cons (pe_callTy cr_range1 (by rfl) T.z_range (by decide +kernel) (pa_cons pe_int pa_nil)) pa_nil)) (pe_lst (pa_cons (pv 2) (pa_cons (pe_op op_fdivW (pv 2) pe_int) (pa_cons (pe_op op_fdivW (pv 2) pe_int) pa_nil)))))) (pg_name (i := 4) sc_law_is.nd rfl (Or.inl rfl))
      (pss_cons (ps_set (i := 5) sc_law_is.nd rfl (Or.inl rfl) (pe_meth (pv 0) T.cl_Bound T.m_Bound_at G_Bound_at (hr.mono (by decide)) T.b_Bound_at .nil pass0 (pa_cons (pv 4) pa_nil)))
    (pss_one (ps_if (pt_cmpR (op_neD hr.units) (pe_tup (pa_cons (pe_fld (pv 5) rfl) (pa_cons (pe_fld (pv 5) rfl) pa_nil))) (pe_call G_law_at (hr.mono (by decide)) rfl T.g_law_at T.k_law_at T.b_law_at .nil pass0 (pa_cons (pv 1) (pa_cons (pv 4) pa_nil))) (nomark _))
      (pss_one (ps_ret pe_bl))
      pss_nil))))
    (pss_one (ps_ret pe_bl))))), ?_⟩
  have two2 : (2 : Nat) ≤ sizeLine := by decide
  have three3 : (3 : Nat) ≤ sizeLine := by decide
  obtain ⟨dx, a1, b1, c1, hp, A1, B1, C1⟩ := id BB
  obtain ⟨l, a, b, c, hd, hl, p1, p2, p3⟩ := id DD
  have n1 := T.na_Ratio_num
  have n2 := T.na_Ratio_den
  -- the three pairs
  refine ⟨_, rfl, p, _, dx, _, _, rfl, hp, T.cl_Bound, T.na_Bound_flat, bf_flat _ _ _ _, _, rfl, d, _, _, _, rfl, rfl, SqT.of hd, rfl, l, _, _, _, rfl, rfl, SqL.of hl, rfl, two2, fun t1 h1 => ?_⟩
  have m1 := same_new h1 (.tup [.ref a1, .ref a])
  refine ⟨_, rfl, p, _, dx, _, _, rfl, m1 _ _ hp, T.cl_Bound, T.na_Bound_first, bf_first _ _ _ _, _, rfl, d, _, _, _, rfl, rfl, SqT.of (m1 _ _ hd), rfl, l, _, _, _, rfl, rfl, SqL.of (m1 _ _ hl), rfl, two2, fun t2 h2 => ?_⟩
  have m2' := same_new h2 (.tup [.ref b1, .ref b])
  have m2 := m1.trans m2'
  refine ⟨_, rfl, p, _, dx, _, _, rfl, m2 _ _ hp, T.cl_Bound, T.na_Bound_more, bf_more _ _ _ _, _, rfl, d, _, _, _, rfl, rfl, SqT.of (m2 _ _ hd), rfl, l, _, _, _, rfl, rfl, SqL.of (m2 _ _ hl), rfl, two2, fun t3 h3 => ⟨three3, fun t h4 => ?_⟩⟩
  have m3' := same_new h3 (.tup [.ref c1, .ref c])
  have m4' := same_new h4 (.tup [.ref t1, .ref t2, .ref t3])
  have m4 := m2.trans (m3'.trans m4')
  have e1 := m4' _ _ (m3' _ _ (m2' _ _ (upd_same (H := H) (a := t1) (o := .tup [.ref a1, .ref a]))))
  have e2 := m4' _ _ (m3' _ _ (upd_same (H := upd H t1 (.tup [.ref a1, .ref a])) (a := t2) (o := .tup [.ref b1, .ref b])))
  have e3 := m4' _ _ (upd_same (H := upd (upd H t1 (.tup [.ref a1, .ref a])) t2 (.tup [.ref b1, .ref b])) (a := t3) (o := .tup [.ref c1, .ref c]))
  have e4 := upd_same (H := upd (upd (upd H t1 (.tup [.ref a1, .ref a])) t2 (.tup [.ref b1, .ref b])) t3 (.tup [.ref c1, .ref c])) (a := t) (o := .tup [.ref t1, .ref t2, .ref t3])
  revert m4 e1 e2 e3 e4
  generalize upd (upd (upd (upd H t1 _) t2 _) t3 _) t _ = H4
  intro m4 e1 e2 e3 e4
  clear m1 m2' m2 m3' m4' h1 h2 h3 h4
  refine ⟨t, rfl, ⟨_, SqT.of e4⟩, for_tup (K := K) (a := t) (xs := [.ref t1, .ref t2, .ref t3]) (fun i σ H' => Same H4 H' ∧ ∃ v3 v4 v5 : Option V, σ = [some (.ref p), some (.ref d), some (.int wd), v3, v4, v5]) ⟨Same.refl _, none, none, none, rfl⟩ (fun i σ H' _ h => SqT.of (h.1 _ _ e4)) ?_ ?_⟩
  · rintro i v σ H5 hv ⟨m5, v3, v4, v5, rfl⟩
    have it : ∃ (ti ai pi : Addr) (q : Rat), v = .ref ti ∧ H4 ti = some (.tup [.ref ai, .ref pi]) ∧ RV T.C_Ratio H4 ai q ∧ PV H4 pi 100 q := by
      match i, hv with
      | 0, hv => cases hv; exact ⟨t1, a1, a, x.a, rfl, e1, A1.same m4, p1.same m4⟩
      | 1, hv => cases hv; exact ⟨t2, b1, b, x.b, rfl, e2, B1.same m4, p2.same m4⟩
      | 2, hv => cases hv; exact ⟨t3, c1, c, x.c, rfl, e3, C1.same m4, p3.same m4⟩
    obtain ⟨ti, ai, pi, q, rfl, et, Ra, Pp⟩ := it
    obtain ⟨da, ha⟩ := Ra.same m5
    obtain ⟨n, dd, hpi, d0, sn, sd, eq⟩ := Pp.same m5
    have et5 := m5 _ _ et
    refine ⟨_, rfl, ti, _, _, _, rfl, rfl, SqT.of et5, rfl, ai, _, da, _, _, rfl, ha, T.cl_Ratio, n1, rf_num _, _, rfl, ti, _, _, _, rfl, rfl, SqT.of et5, rfl, ai, _, da, _, _, rfl, ha, T.cl_Ratio, n2, rf_den _, two2, fun u hu => ?_⟩
    have m6 := same_new hu (.tup [.int q.num, .int (q.den : Int)])
    refine ⟨_, rfl, ti, _, _, _, rfl, rfl, SqT.of (m6 _ _ et5), rfl, pi, _, _, _, rfl, rfl, SqT.of (m6 _ _ hpi), rfl, _, rfl, ti, _, _, _, rfl, rfl, SqT.of (m6 _ _ et5), rfl, pi, _, _, _, rfl, rfl, SqT.of (m6 _ _ hpi), rfl, n, dd, rfl, d0, sn.mono (by decide), sd.mono (by decide), fun r H7 m7 e7 => ?_⟩
    rw [eq] at e7
    refine ⟨.tuple [.int q.num, .int (q.den : Int)], .tuple [.int q.num, .int (q.den : Int)], .tup (SqT.of (m7 _ _ upd_same)) (.cons (.int _) (.cons (.int _) .nil)), .tup (SqT.of e7) (.cons (.int _) (.cons (.int _) .nil)), rfl, rfl, _, rfl, ?_⟩
    refine ite_no (by rw [SeqAt.eqv_refl _ rfl]; exact Bool.false_ne_true) ?_
    exact ⟨m5.trans (m6.trans m7), _, _, _, rfl⟩
  rintro σ H5 ⟨m5, v3, v4, v5, rfl⟩
  have m45 := m4.trans m5
  have hd5 := m45 _ _ hd
  have hp5 := m45 _ _ hp
  refine ⟨_, rfl, p, _, dx, _, _, rfl, hp5, T.cl_Bound, T.na_Bound_limit, bf_limit _ _ _ _, _, rfl, d, _, _, _, rfl, rfl, SqT.of hd5, rfl, scal_l _, _, rfl, ite_no (by simp) ?_⟩
  refine ⟨_, rfl, _, rfl, d, x, rfl, DD.same m45, ok, fun p2' H6 m6 B6 => ?_⟩
  have m46 := m45.trans m6
  obtain ⟨dy, aa, bb, cc, hp2, _⟩ := id B6
  refine ⟨p, p2', dx, dy, _, _, rfl, rfl, m46 _ _ hp, hp2, p, p2', x, x, true, rfl, BB.same m46, B6, ok, ok, ⟨fun _ => rfl, fun _ => rfl⟩, true, rfl, iteF ?_⟩
  -- the numbers of calls
  refine ⟨13, rfl, fun r hr' => ⟨r, 13, rfl, upd_same, by decide, fun l1 hl1 => ?_⟩⟩
  have m7 := same_new hr' (.rng 0 13)
  have m8 := same_new hl1 (.lst ((List.range 13).map fun i => V.int (i : Nat)))
  refine ⟨_, rfl, _, rfl, _, _, rfl, rfl, cdiv (k := 10) (by decide) (by decide), _, rfl, _, _, rfl, rfl, cdiv (k := 15) (by decide) (by decide), three3, fun l2 hl2 => ?_⟩
  have m9 := same_new hl2 (.lst [.int wd, .int (wd / 1000), .int (wd / 30000)])
  refine ⟨l1, l2, _, _, rfl, rfl, m9 _ _ upd_same, upd_same, (by show _ + 3 ≤ sizeLine; rw [List.length_map, List.length_range]; decide), fun l3 hl3 => ?_⟩
  have ei := ints_of 13 [wd, wd / 1000, wd / 30000]
  have em : (([wd, wd / 1000, wd / 30000] : List Int).map V.int) = [.int wd, .int (wd / 1000), .int (wd / 30000)] := rfl
  rw [em] at ei
  rw [ei]
  have m10 := same_new hl3 (.lst ((((List.range 13).map fun i : Nat => Int.ofNat i) ++ [wd, wd / 1000, wd / 30000]).map V.int))
  have e10 := upd_same (H := upd (upd (upd H6 r (.rng 0 13)) l1 (.lst ((List.range 13).map fun i => V.int (i : Nat)))) l2 (.lst [.int wd, .int (wd / 1000), .int (wd / 30000)])) (a := l3) (o := .lst ((((List.range 13).map fun i : Nat => Int.ofNat i) ++ [wd, wd / 1000, wd / 30000]).map V.int))
  have m11 := m46.trans (m7.trans (m8.trans (m9.trans m10)))
  revert e10 m11
  generalize upd (upd (upd (upd H6 r _) l1 _) l2 _) l3 _ = H10
  intro e10 m11
  clear m7 m8 m9 m10
  refine ⟨l3, rfl, ⟨_, SqL.of e10⟩, for_list (K := K) (a := l3) (xs := (((List.range 13).map fun i : Nat => Int.ofNat i) ++ [wd, wd / 1000, wd / 30000]).map V.int) (fun i σ H' => Same H10 H' ∧ ∃ v3 v4 v5 : Option V, σ = [some (.ref p), some (.ref d), some (.int wd), v3, v4, v5]) ⟨Same.refl _, _, _, _, rfl⟩ (fun i σ H' _ h => SqL.of (h.1 _ _ e10)) ?_ ?_⟩
  · rintro i v σ H12 hv ⟨m12, v3, v4, v5, rfl⟩
    have it : ∃ q : Int, v = .int q ∧ 0 ≤ q ∧ Sm 64 q := by
      have hm := List.mem_of_getElem? hv
      obtain ⟨q, hq, rfl⟩ := List.mem_map.mp hm
      refine ⟨q, rfl, ?_⟩
      have sw' : wd.natAbs < 1073741824 := sw
      have g : ∀ z : Int, 0 ≤ z → z < 1073741824 → 0 ≤ z ∧ Sm 64 z := fun z h0 h1 => ⟨h0, by show z.natAbs < 18446744073709551616; omega⟩
      rcases List.mem_append.mp hq with y | y
      · obtain ⟨j, hj, rfl⟩ := List.mem_map.mp y
        have := List.mem_range.mp hj
        have h9 := g (j : Int) (by omega) (by omega)
        exact h9
      · simp only [List.mem_cons, List.not_mem_nil, or_false] at y
        rcases y with rfl | rfl | rfl
        · exact g _ (by omega) (by omega)
        · exact g _ (by omega) (by omega)
        · exact g _ (by omega) (by omega)
    obtain ⟨q, rfl, q0, sq⟩ := it
    have mm := m11.trans m12
    have BB' := BB.same mm
    refine ⟨_, rfl, p, dx, _, rfl, mm _ _ hp, bf_no _ _ _ _ (by decide +kernel) (by decide +kernel) (by decide +kernel) (by decide +kernel), _, rfl, p, x, q, rfl, BB', ok, q0, sq, fun y H13 m13 R13 => ?_⟩
    obtain ⟨dz, hy⟩ := id R13
    refine ⟨_, rfl, y, _, dz, _, _, rfl, hy, T.cl_Ratio, n1, rf_num _, _, rfl, y, _, dz, _, _, rfl, hy, T.cl_Ratio, n2, rf_den _, two2, fun u hu => ?_⟩
    have m14 := same_new hu (.tup [.int (x.at q).num, .int ((x.at q).den : Int)])
    refine ⟨_, rfl, _, rfl, d, x, q, rfl, DD.same (mm.trans (m13.trans m14)), ok, q0, sq, fun z H15 m15 e15 => ?_⟩
    refine ⟨.tuple [.int (x.at q).num, .int ((x.at q).den : Int)], .tuple [.int (x.at q).num, .int ((x.at q).den : Int)], .tup (SqT.of (m15 _ _ upd_same)) (.cons (.int _) (.cons (.int _) .nil)), .tup (SqT.of e15) (.cons (.int _) (.cons (.int _) .nil)), rfl, rfl, _, rfl, ?_⟩
    refine ite_no (by rw [SeqAt.eqv_refl _ rfl]; exact Bool.false_ne_true) ?_
    exact ⟨m12.trans (m13.trans (m14.trans m15)), _, _, _, rfl⟩
  rintro σ H12 ⟨m12, v3, v4, v5, rfl⟩
  exact k _ (m11.trans m12)
end
end Toy
set_option Elab.async false
set_option linter.all false
set_option maxRecDepth 100000
set_option maxHeartbeats 4000000
namespace Toy
open PySem L2 Mine
open Gm (ixlK ixtK)
def limD : Option Int → PyData
  | none => .none
  | some l => .int l
def toldD (x : Bq) : PyData := .tuple [.list [.tuple [.int x.a.num, .int (x.a.den : Int)], .tuple [.int x.b.num, .int (x.b.den : Int)], .tuple [.int x.c.num, .int (x.c.den : Int)]], limD x.lim]
theorem limD_eqv (l m : Option Int) : PyData.eqv (limD l) (limD m) = true ↔ l = m := by
  cases l <;> cases m <;> simp [limD, PyData.eqv]
theorem told_eqv (x y : Bq) : PyData.eqv (toldD x) (toldD y) = true ↔ x = y := by
  unfold toldD
  simp only [PyData.eqv, PyData.eqvAll, Bool.and_true, Bool.and_eq_true, beq_iff_eq, limD_eqv]
  rw [bq_eq, eq_parts, eq_parts, eq_parts]
  simp only [Int.ofNat_inj]
  constructor
  · rintro ⟨⟨⟨h1, h2⟩, ⟨h3, h4⟩, h5, h6⟩, h7⟩
    exact ⟨⟨h1, h2⟩, ⟨h3, h4⟩, ⟨h5, h6⟩, h7⟩
  · rintro ⟨⟨h1, h2⟩, ⟨h3, h4⟩, ⟨h5, h6⟩, h7⟩
    exact ⟨⟨⟨h1, h2⟩, ⟨h3, h4⟩, h5, h6⟩, h7⟩
theorem told_shaped (x : Bq) : SeqAt.shaped (toldD x) = true := by
  unfold toldD
  cases x.lim <;> rfl
theorem told_dp {K : PySem.W.Frag} {H : Hp} {p : Addr} {x : Bq} (h : ToldAt H p x) : Dp K H (.ref p) (toldD x) := by
  obtain ⟨l, a, b, c, h1, h2, h3, h4, h5⟩ := h
  refine .tup (SqT.of h1) (.cons (.lst (SqL.of h2) (.cons (.tup (SqT.of h3) (.cons (.int _) (.cons (.int _) .nil))) (.cons (.tup (SqT.of h4) (.cons (.int _) (.cons (.int _) .nil))) (.cons (.tup (SqT.of h5) (.cons (.int _) (.cons (.int _) .nil))) .nil)))) (.cons ?_ .nil))
  cases x.lim with
  | none => exact .non
  | some l => exact .int l
theorem told_same {H H' : Hp} {p : Addr} {x : Bq} (h : ToldAt H p x) (m : Same H H') : ToldAt H' p x := let ⟨l, a, b, c, h1, h2, h3, h4, h5⟩ := h; ⟨l, a, b, c, m _ _ h1, m _ _ h2, m _ _ h3, m _ _ h4, m _ _ h5⟩
def spLaw (K : PySem.W.Frag) : Sp := fun vs H Q _ => ∃ (a : Addr) (ns : List Int), vs = [.ref a] ∧ SqL K H a (ns.map V.int) ∧ ns.length ≤ 63 ∧ ∀ H', Q (.bl true) H'
section
variable {P : Program} {w : World} {K : PySem.W.Frag} {mg : Str → Option Value} {base : Heap}
theorem ok_law (T : Txt K mg) : FnOk P w K mg base CX0 30 T.a_law T.fd_law ["script"] (spLaw K) := by
  have G_law_cell : FnOk P w K mg base CX0 1 T.a_law_cell T.fd_law_cell ["script", "k"] (spCell K) := ok_cell T
  have G_law_drawn : FnOk P w K mg base CX0 2 T.a_law_drawn T.fd_law_drawn ["cell"] spDrawn := ok_drawn T
  have G_law_made : FnOk P w K mg base CX0 3 T.a_law_made T.fd_law_made ["drawn"] (spMade T.C_Bound T.C_Ratio) := ok_made T
  have G_law_is : FnOk P w K mg base CX0 6 T.a_law_is T.fd_law_is ["actual", "due", "wide"] (spIs T.C_Bound T.C_Ratio) := ok_is T
  have G_law_plus_of : FnOk P w K mg base CX0 3 T.a_law_plus_of T.fd_law_plus_of ["one", "other"] spPlusOf := ok_plusof T
  have G_law_within : FnOk P w K mg base CX0 3 T.a_law_within T.fd_law_within ["drawn", "asks"] spLWithin := ok_lwithin T
  have G_law_told : FnOk P w K mg base CX0 2 T.a_law_told T.fd_law_told ["drawn"] spTold := ok_told T
  have G_law_refused : FnOk P w K mg base CX0 3 T.a_law_refused T.fd_law_refused ["flat", "first", "more", "limit"] (spRefused T.C_Ratio) := ok_refused T
  have G_nothing : FnOk P w K mg base CX0 3 T.a_nothing T.fd_nothing [] (spNothing T.C_Bound T.C_Ratio) := ok_nothing T
  have G_Bound_at : FnOk P w K mg base CX0 5 T.a_Bound_at T.fd_Bound_at ["self", "calls"] (spBAt T.C_Bound T.C_Ratio) := ok_bat T
  have G_Bound_eq : FnOk P w K mg base CX0 2 T.a_Bound_eq T.fd_Bound_eq ["self", "other"] (spBEq T.C_Bound T.C_Ratio) := ok_beq T
  have G_Bound_plus : FnOk P w K mg base CX0 5 T.a_Bound_plus T.fd_Bound_plus ["self", "other"] (spBPlus T.C_Bound T.C_Ratio) := ok_bplus T
  have G_Bound_within : FnOk P w K mg base CX0 5 T.a_Bound_within T.fd_Bound_within ["self", "asks"] (spBWithin T.C_Bound T.C_Ratio) := ok_bwithin T
  have G_Ratio_init : FnOk P w K mg base (L2.CX P w) 1 T.a_Ratio_init T.fd_Ratio_init ["self", "num", "den"] (spInit T.C_Ratio T.C_BadBound) := ok_init T
  have G_Ratio_below : FnOk P w K mg base CX0 1 T.a_Ratio_below T.fd_Ratio_below ["self", "other"] (spTst T.C_Ratio fun q r => decide (q < r)) := ok_below T
  refine T.F_law.ok sc_law (fun vs H Q E h => ?_) (fun cdv A outer s H vs Q E hr h => ?_)
  · obtain ⟨a, ns, rfl, _⟩ := h
    rfl
  obtain ⟨sa, ns, rfl, hS, hlen, q⟩ := h
  refine ⟨_, (pss_cons (ps_set (i := 1) sc_law.nd rfl (Or.inl rfl) (pe_call G_law_drawn (hr.mono (by decide)) rfl T.g_law_drawn T.k_law_drawn T.b_law_drawn .nil pass0 (pa_cons (pe_call G_law_cell (hr.mono (by decide)) rfl T.g_law_cell T.k_law_cell T.b_law_cell .nil pass0 (pa_cons (pv 0) (pa_cons pe_int pa_nil))) pa_nil)))
    (pss_cons (ps_set (i := 2) sc_law.nd rfl (Or.inl rfl) (pe_call G_law_drawn (hr.mono (by decide)) rfl T.g_law_drawn T.k_law_drawn T.b_law_drawn .nil pass0 (pa_cons (pe_call G_law_cell (hr.mono (by decide)) rfl T.g_law_cell T.k_law_cell T.b_law_cell .nil pass0 (pa_cons (pv 0) (pa_cons pe_int pa_nil))) pa_nil)))
    (pss_cons (ps_set (i := 3) sc_law.nd rfl (Or.inl rfl) (pe_op op_mod (pe_callTy call_int1 (by rfl) T.z_int (by decide +kernel) (pa_cons (pe_call G_law_cell (hr.mono (by decide)) rfl T.g_law_cell T.k_law_cell T.b_law_cell .nil pass0 (pa_cons (pv 0) (pa_cons pe_int pa_nil))) pa_nil)) pe_int))
    (pss_cons (ps_if (pt_cmpR op_eq (pe_op op_mod (pe_callTy call_int1 (by rfl) T.z_int (by decide +kernel) (pa_cons (pe_call G_law_cell (hr.mono (by decide)) rfl T.g_law_cell T.k_law_cell T.b_law_cell .nil pass0 (pa_cons (pv 0) (pa_cons pe_int pa_nil))) pa_nil)) pe_int) pe_int (nomark _))
      (pss_one (ps_set (i := 3) sc_law.nd rfl (Or.inl rfl) (pe_op op_mod (pe_op op_fdivW (pe_callTy call_int1 (by rfl) T.z_int (by decide +kernel) (pa_cons (pe_call G_law_cell (hr.mono (by decide)) rfl T.g_law_cell T.k_law_cell T.b_law_cell .nil pass0 (pa_cons (pv 0) (pa_cons pe_int pa_nil))) pa_nil)) pe_int) pe_int)))
      pss_nil)
    (pss_cons (ps_set (i := 4) sc_law.nd rfl (Or.inl rfl) (pe_op op_mod (pe_callB call_abs (by rfl) T.z_abs (by decide +kernel) (pa_cons (pe_call G_law_cell (hr.mono (by decide)) rfl T.g_law_cell T.k_law_cell T.b_law_cell .nil pass0 (pa_cons (pv 0) (pa_cons pe_int pa_nil))) pa_nil)) pe_int))
    (pss_cons (ps_set (i := 5) sc_law.nd rfl (Or.inl rfl) (pe_lst (pa_cons (pe_call G_law_made (hr.mono (by decide)) rfl T.g_law_made T.k_law_made T.b_law_made .nil pass0 (pa_cons (pv 1) pa_nil)) (pa_cons (pe_call G_law_made (hr.mono (by decide)) rfl T.g_law_made T.k_law_made T.b_law_made .nil pass0 (pa_cons (pv 2) pa_nil)) pa_nil))))
    (pss_cons (ps_set (i := 6) sc_law.nd rfl (Or.inl rfl) (pe_meth (pe_ix ix_list (pv 5) pe_int (fun _ _ => rfl)) T.cl_Bound T.m_Bound_plus G_Bound_plus (hr.mono (by decide)) T.b_Bound_plus .nil pass0 (pa_cons (pe_ix ix_list (pv 5) pe_int (fun _ _ => rfl)) pa_nil)))
    (pss_cons (ps_if (PW.pt (pw_or (pt_cmpR (op_ownNe G_Bound_eq (hr.mono (by decide)) T.b_Bound_eq pass0 T.om_Bound T.ne_Bound T.m_Bound_eq.at_ T.m_Bound_eq.fn) (pe_meth (pe_ix ix_list (pv 5) pe_int (fun _ _ => rfl)) T.cl_Bound T.m_Bound_within G_Bound_within (hr.mono (by decide)) T.b_Bound_within .nil pass0 (pa_cons (pv 3) pa_nil)) (pe_meth (pe_call G_law_made (hr.mono (by decide)) rfl T.g_law_made T.k_law_made T.b_law_made .nil pass0 (pa_cons (pv 1) pa_nil)) T.cl_Bound T.m_Bound_within G_Bound_within (hr.mono (by decide)) T.b_Bound_within .nil pass0 (pa_cons (pv 3) pa_nil)) (nomark _)) (pw_or1 (pt_cmpR (op_ownNe G_Bound_eq (hr.mono (by decide)) T.b_Bound_eq pass0 T.om_Bound T.ne_Bound T.m_Bound_eq.at_ T.m_Bound_eq.fn) (pe_meth (pe_ix ix_list (pv 5) pe_int (fun _ _ => rfl)) T.cl_Bound T.m_Bound_plus G_Bound_plus (hr.mono (by decide)) T.b_Bound_plus .nil pass0 (pa_cons (pe_ix ix_list (pv 5) pe_int (fun _ _ => rfl)) pa_nil)) (pv 6) (nomark _)))))
      (pss_one (ps_ret pe_bl))
      pss_nil)
    (pss_cons (ps_if (PW.pt (pw_or (pt_not (pt_val (pe_call G_law_is (hr.mono (by decide)) rfl T.g_law_is T.k_law_is T.b_law_is .nil pass0 (pa_cons (pe_ix ix_list (pv 5) pe_int (fun _ _ => rfl)) (pa_cons (pv 1) (pa_cons (pv 4) pa_nil)))))) (pw_or1 (pt_not (pt_val (pe_call G_law_is (hr.mono (by decide)) rfl T.g_law_is T.k_law_is T.b_law_is .nil pass0 (pa_cons (pe_ix ix_list (pv 5) pe_int (fun _ _ => rfl)) (pa_cons (pv 2) (pa_cons (pv 4) pa_nil)))))))))
      (pss_one (ps_ret pe_bl))
      pss_nil)
    (pss_cons (ps_if (PW.pt (pw_or (pt_not (pt_val (pe_call G_law_is (hr.mono (by decide)) rfl T.g_law_is T.k_law_is T.b_law_is .nil pass0 (pa_cons (pe_call G_law_made (hr.mono (by decide)) rfl T.g_law_made T.k_law_made T.b_law_made .nil pass0 (pa_cons (pv 1) pa_nil)) (pa_cons (pv 1) (pa_cons (pv 4) pa_nil)))))) (pw_or1 (pt_not (pt_val (pe_call G_law_is (hr.mono (by decide)) rfl T.g_law_is T.k_law_is T.b_law_is .nil pass0 (pa_cons (pv 6) (pa_cons (pe_call G_law_plus_of (hr.mono (by decide)) rfl T.g_law_plus_of T.k_law_plus_of T.b_law_plus_of .nil pass0 (pa_cons (pv 1) (pa_cons (pv 2) pa_nil))) (pa_cons (pv 4) pa_nil)))))))))
      (pss_one (ps_ret pe_bl))
      pss_nil)
    (pss_cons (ps_set (i := 7) sc_law.nd rfl (Or.inl rfl) (pe_meth (pe_call G_law_made (hr.mono (by decide)) rfl T.g_law_made T.k_law_made T.b_law_made .nil pass0 (pa_cons (pv 1) pa_nil)) T.cl_Bound T.m_Bound_within G_Bound_within (hr.mono (by decide)) T.b_Bound_within .nil pass0 (pa_cons (pv 3) pa_nil)))
    (pss_cons (ps_set (i := 8) sc_law.nd rfl (Or.inl rfl) (pe_tup (pa_cons (pe_lst (pa_cons (pe_tup (pa_cons pe_int (pa_cons pe_int pa_nil))) (pa_cons (pe_tup (pa_cons pe_int (pa_cons pe_int pa_nil))) (pa_cons (pe_tup (pa_cons pe_int (pa_cons pe_int pa_nil))) pa_nil)))) (pa_cons pe_non pa_nil))))
    (pss_cons (ps_if (PW.pt (pw_or (pt_not (pt_val (pe_call G_law_is (hr.mono (by decide)) rfl T.g_law_is T.k_law_is T.b_law_is .nil pass0 (pa_cons (pv 7) (pa_cons (pe_call G_law_within (hr.mono (by decide)) rfl T.g_law_within T.k_law_within T.b_law_within .nil pass0 (pa_cons (pv 1) (pa_cons (pv 3) pa_nil))) (pa_cons (pv 4) pa_nil)))))) (pw_or1 (pt_not (pt_val (pe_call G_law_is (hr.mono (by decide)) rfl T.g_law_is T.k_law_is T.b_law_is .nil pass0 (pa_cons (pe_call0 G_nothing (hr.mono (by decide)) rfl T.g_nothing T.k_nothing T.b_nothing .nil pass0) (pa_cons (pv 8) (pa_cons (pv 4) pa_nil)))))))))
      (pss_one (ps_ret pe_bl))
      pss_nil)
    (pss_cons (ps_for PassesOwn.never rfl (pi_list (pe_op op_cat (pe_callTy (call_list_rng rfl) (by rfl) T.z_list (by decide +kernel) (pa_cons (pe_callTy cr_range1 (by rfl) T.z_range (by decide +kernel) (pa_cons pe_int pa_nil)) pa_nil)) (pe_lst (pa_cons (pv 4) pa_nil)))) (pg_name (i := 9) sc_law.nd rfl (Or.inl rfl))
      (pss_one (ps_if (pt_val (pe_meth (pe_meth (pv 7) T.cl_Bound T.m_Bound_at G_Bound_at (hr.mono (by decide)) T.b_Bound_at .nil pass0 (pa_cons (pv 9) pa_nil)) T.cl_Ratio T.m_Ratio_below G_Ratio_below (hr.mono (by decide)) T.b_Ratio_below .nil pass0 (pa_cons (pe_meth (pe_call G_law_made (hr.mono (by decide)) rfl T.g_law_made T.k_law_made T.b_law_made .nil pass0 (pa_cons (pv 1) pa_nil)) T.cl_Bound T.m_Bound_at G_Bound_at (hr.mono (by decide)) T.b_Bound_at .nil pass0 (pa_cons (pe_op op_mulW (pv 3) (pv 9)) pa_nil)) pa_nil)))
      (pss_one (ps_ret pe_bl))
      pss_nil)))
    (pss_cons (ps_if (pt_cmpR op_ne (pe_cmpR (op_ownEq G_Bound_eq (hr.mono (by decide)) T.b_Bound_eq pass0 T.m_Bound_eq.at_ T.m_Bound_eq.fn) (pe_call G_law_made (hr.mono (by decide)) rfl T.g_law_made T.k_law_made T.b_law_made .nil pass0 (pa_cons (pv 1) pa_nil)) (pe_call G_law_made (hr.mono (by decide)) rfl T.g_law_made T.k_law_made T.b_law_made .nil pass0 (pa_cons (pv 2) pa_nil)) (nomark _)) (pe_cmpR (op_eqD hr.units) (pe_call G_law_told (hr.mono (by decide)) rfl T.g_law_told T.k_law_told T.b_law_told .nil pass0 (pa_cons (pv 1) pa_nil)) (pe_call G_law_told (hr.mono (by decide)) rfl T.g_law_told T.k_law_told T.b_law_told .nil pass0 (pa_cons (pv 2) pa_nil)) (nomark _)) (nomark _))
      (pss_one (ps_ret pe_bl))
      pss_nil)
    (pss_cons (ps_set (i := 10) sc_law.nd rfl (Or.inl rfl) (pe_make T.mk_Ratio G_Ratio_init (hr.mono (by decide)) rfl T.g_Ratio T.b_Ratio_init .nil passL (pa_cons (pe_un un_neg pe_int) (pa_cons pe_int pa_nil))))
    (pss_cons (ps_set (i := 11) sc_law.nd rfl (Or.inl rfl) (pe_make T.mk_Ratio G_Ratio_init (hr.mono (by decide)) rfl T.g_Ratio T.db0_Ratio_init T.dv0_Ratio_init passL (pa_cons pe_int pa_nil)))
    (pss_cons (ps_if (PW.pt (pw_or (pt_not (pt_val (pe_call G_law_refused (hr.mono (by decide)) rfl T.g_law_refused T.k_law_refused T.b_law_refused .nil pass0 (pa_cons (pv 10) (pa_cons (pv 11) (pa_cons (pv 11) (pa_cons pe_non pa_nil))))))) (pw_or1 (pt_not (pt_val (pe_call G_law_refused (hr.mono (by decide)) rfl T.g_law_refused T.k_law_refused T.b_law_refused .nil pass0 (pa_cons (pv 11) (pa_cons (pv 10) (pa_cons (pv 11) (pa_cons pe_int pa_nil))))))))))
      (pss_one (ps_ret pe_bl))
      pss_nil)
    (pss_cons (ps_setLc (i := 12) (own := [("part", 13)]) (g := gName 13) (tt := tYes) rfl sc_law.nd rfl rfl (sw_true rfl rfl rfl (by decide +kernel)) (pi_list (pe_ix ix_tup (pv 1) pe_int (fun _ _ => rfl))) (blkOk_by (own := [("part", 13)]) (N := ["script", "one", "other", "asks", "wide", "bounds", "plus", "inner", "empty", "calls", "low", "zero", "parts", "part", "below", "k", "row"]) (sc := defScope s_law) (by decide +kernel)) (fun _ _ _ _ _ => pg_name (i := 13) sc_law.nd rfl (Or.inl rfl)) (fun _ _ _ _ _ => pts_nil) (fun _ _ _ _ _ => (pe_make T.mk_Ratio G_Ratio_init (hr.mono (by decide)) rfl T.g_Ratio T.b_Ratio_init .nil passL (pa_cons (pe_ix (ixtK K rfl) (pv 13) pe_int (fun _ _ => rfl)) (pa_cons (pe_ix (ixtK K rfl) (pv 13) pe_int (fun _ _ => rfl)) pa_nil)))))
    (pss_cons (ps_set (i := 14) sc_law.nd rfl (Or.inl rfl) (pe_make T.mk_Ratio G_Ratio_init (hr.mono (by decide)) rfl T.g_Ratio T.b_Ratio_init .nil passL (pa_cons (pe_op op_sub (pe_un un_neg pe_int) (pe_op op_mod (pe_op op_fdivW (pe_callTy call_int1 (by rfl) T.z_int (by decide +kernel) (pa_cons (pe_call G_law_cell (hr.mono (by decide)) rfl T.g_law_cell T.k_law_cell T.b_law_cell .nil pass0 (pa_cons (pv 0) (pa_cons pe_int pa_nil))) pa_nil)) pe_int) pe_int)) (pa_cons (pe_op op_add pe_int (pe_op op_mod (pv 4) pe_int)) pa_nil))))
    (pss_cons (ps_for PassesOwn.never rfl (pi_range1 (by rfl) T.z_range (pa_cons pe_int pa_nil)) (pg_name (i := 15) sc_law.nd rfl (Or.inl rfl))
      (pss_cons (ps_set (i := 16) sc_law.nd rfl (Or.inl rfl) (pe_op op_cat (pe_op op_cat (pe_slice sl_list (pv 12) po_none (po_some (pv 15))) (pe_lst (pa_cons (pv 14) pa_nil))) (pe_slice sl_list (pv 12) (po_some (pe_op op_add (pv 15) pe_int)) po_none)))
    (pss_one (ps_if (pt_not (pt_val (pe_call G_law_refused (hr.mono (by decide)) rfl T.g_law_refused T.k_law_refused T.b_law_refused .nil pass0 (pa_cons (pe_ix ix_list (pv 16) pe_int (fun _ _ => rfl)) (pa_cons (pe_ix ix_list (pv 16) pe_int (fun _ _ => rfl)) (pa_cons (pe_ix ix_list (pv 16) pe_int (fun _ _ => rfl)) (pa_cons (pe_ix ix_tup (pv 1) pe_int (fun _ _ => rfl)) pa_nil)))))))
      (pss_one (ps_ret pe_bl))
      pss_nil))))
    (pss_cons (ps_if (pt_not (pt_val (pe_call G_law_refused (hr.mono (by decide)) rfl T.g_law_refused T.k_law_refused T.b_law_refused .nil pass0 (pa_cons (pe_ix ix_list (pv 12) pe_int (fun _ _ => rfl)) (pa_cons (pe_ix ix_list (pv 12) pe_int (fun _ _ => rfl)) (pa_cons (pe_ix ix_list (pv 12) pe_int (fun _ _ => rfl)) (pa_cons (pe_op op_sub (pe_un un_neg pe_int) (pe_op op_mod (pv 4) pe_int)) pa_nil)))))))
      (pss_one (ps_ret pe_bl))
      pss_nil)
    (pss_one (ps_ret (pe_and (pe_call G_law_refused (hr.mono (by decide)) rfl T.g_law_refused T.k_law_refused T.b_law_refused .nil pass0 (pa_cons (pv 11) (pa_cons (pv 11) (pa_cons (pv 10) (pa_cons pe_non pa_nil))))) (pe_one (pe_call G_law_refused (hr.mono (by decide)) rfl T.g_law_refused T.k_law_refused T.b_law_refused .nil pass0 (pa_cons (pv 11) (pa_cons (pv 11) (pa_cons (pv 11) (pa_cons (pe_un un_neg pe_int) pa_nil))))))))))))))))))))))))))))))), ?_⟩
  have two2 : (2 : Nat) ≤ sizeLine := by decide
  have three3 : (3 : Nat) ≤ sizeLine := by decide
  have one1 : (1 : Nat) ≤ sizeLine := by decide
  have nb : ∀ {a b c l}, (bf a b c l).lookup ("at" : Str) = none ∧ (bf a b c l).lookup ("plus" : Str) = none ∧ (bf a b c l).lookup ("within" : Str) = none := fun {a b c l} => ⟨bf_no _ _ _ _ (by decide +kernel) (by decide +kernel) (by decide +kernel) (by decide +kernel), bf_no _ _ _ _ (by decide +kernel) (by decide +kernel) (by decide +kernel) (by decide +kernel), bf_no _ _ _ _ (by decide +kernel) (by decide +kernel) (by decide +kernel) (by decide +kernel)⟩
  refine ⟨_, rfl, sa, ns, 0, rfl, hS, by decide, fun v1 => ⟨v1, rfl, fun o1 x H1 m1 D1 ok1 => ?_⟩⟩
  refine ⟨_, rfl, sa, ns, 1, rfl, m1.seq hS, by decide, fun v2 => ⟨v2, rfl, fun o2 y H2 m2 D2 ok2 => ?_⟩⟩
  have D1 := D1.same m2
  have hS2 := m2.seq (m1.seq hS)
  refine ⟨_, rfl, sa, ns, 2, rfl, hS2, by decide, fun c1 => .inl ⟨_, rfl, _, _, rfl, rfl, (by show (0 : Int) < 6; decide), ?_⟩⟩
  refine ⟨_, rfl, sa, ns, 2, rfl, hS2, by decide, fun c2 => .inl ⟨_, rfl, _, _, rfl, rfl, (by show (0 : Int) < 5; decide), rfl, _, rfl, ite2 (fun _ => ?_) (fun _ => ?_)⟩⟩
  · refine ⟨_, rfl, sa, ns, 2, rfl, hS2, by decide, fun c3 => .inl ⟨_, rfl, _, _, rfl, rfl, cdiv (k := 3) (by decide) (by decide), _, _, rfl, rfl, (by show (0 : Int) < 1000; decide), ?_⟩⟩
    have n0 := Int.emod_nonneg (c3 / 5) (by decide : (1000 : Int) ≠ 0)
    have n9 := Int.emod_lt_of_pos (c3 / 5) (by decide : (0 : Int) < 1000)
    dsimp only
    generalize c3 / 5 % 1000 = n at *
    have sn : Sm 10 n := by show n.natAbs < 1024; omega
    refine ⟨_, rfl, sa, ns, 3, rfl, hS2, by decide, fun c4 => ⟨_, rfl, _, _, rfl, rfl, (by show (0 : Int) < 1000000; decide), ?_⟩⟩
    have w0 := Int.emod_nonneg (if c4 < 0 then -c4 else c4) (by decide : (1000000 : Int) ≠ 0)
    have w1 := Int.emod_lt_of_pos (if c4 < 0 then -c4 else c4) (by decide : (0 : Int) < 1000000)
    dsimp only
    generalize (if c4 < 0 then -c4 else c4) % 1000000 = wd at *
    have sw : Sm 30 wd := by show wd.natAbs < 1073741824; omega
    -- bounds
    refine ⟨_, rfl, o1, x, rfl, D1.mono (by decide), ok1.mono (by decide), fun b1 H3 m3 B1 => ?_⟩
    refine ⟨_, rfl, o2, y, rfl, (D2.same m3).mono (by decide), ok2.mono (by decide), fun b2 H4 m4 B2 => ⟨two2, fun bl hbl => ?_⟩⟩
    have m5 := same_new hbl (.lst [.ref b1, .ref b2])
    have hb := upd_same (H := H4) (a := bl) (o := .lst [.ref b1, .ref b2])
    have B1 := B1.same (m4.trans m5)
    have B2 := B2.same m5
    have m25 := m3.trans (m4.trans m5)
    have D1 := D1.same m25
    have D2 := D2.same m25
    have hS5 := m25.seq hS2
    revert hb B1 B2 D1 D2 hS5
    generalize upd H4 bl _ = H5
    intro hb B1 B2 D1 D2 hS5
    clear m3 m4 m5 m25 hbl hS2
    obtain ⟨d1, f1, f2, f3, hb1, _⟩ := id B1
    obtain ⟨d2, g1, g2, g3, hb2, _⟩ := id B2
    -- plus
    refine ⟨_, rfl, bl, _, _, _, rfl, rfl, SqL.of hb, rfl, b1, d1, _, rfl, hb1, nb.2.1, _, rfl, bl, _, _, _, rfl, rfl, SqL.of hb, rfl, b1, b2, x, y, rfl, B1, B2, ok1.mono (by decide), ok2.mono (by decide), fun pl H6 m6 P6 => ?_⟩
    have okp : (x.plus y).Ok 100 := (Bq.plus_ok ok1 ok2).mono (by decide)
    have okw : (x.within n).Ok 100 := Bq.within_ok ok1 n0 sn
    -- within twice
    refine ⟨_, rfl, bl, _, _, _, rfl, rfl, SqL.of (m6 _ _ hb), rfl, b1, d1, _, rfl, m6 _ _ hb1, nb.2.2, _, rfl, b1, x, n, rfl, B1.same m6, ok1, n0, sn, fun w1 H7 m7 W1 => ?_⟩
    have m57 := m6.trans m7
    refine ⟨_, rfl, o1, x, rfl, (D1.same m57).mono (by decide), ok1.mono (by decide), fun u1 H8 m8 U1 => ?_⟩
    obtain ⟨du, i1, i2, i3, hu1, _⟩ := id U1
    refine ⟨u1, du, _, rfl, hu1, nb.2.2, _, rfl, u1, x, n, rfl, U1, ok1, n0, sn, fun w2 H9 m9 W2 => ?_⟩
    have W1 := W1.same (m8.trans m9)
    obtain ⟨dw1, j1, j2, j3, hw1, _⟩ := id W1
    obtain ⟨dw2, k1, k2, k3, hw2, _⟩ := id W2
    have m59 := m57.trans (m8.trans m9)
    refine ⟨w1, w2, dw1, dw2, _, _, rfl, rfl, hw1, hw2, w1, w2, _, _, true, rfl, W1, W2, okw, okw, ⟨fun _ => rfl, fun _ => rfl⟩, true, rfl, _, rfl, iteF ?_⟩
    -- plus again
    refine ⟨_, rfl, bl, _, _, _, rfl, rfl, SqL.of (m59 _ _ hb), rfl, b1, d1, _, rfl, m59 _ _ hb1, nb.2.1, _, rfl, bl, _, _, _, rfl, rfl, SqL.of (m59 _ _ hb), rfl, b1, b2, x, y, rfl, B1.same m59, B2.same m59, ok1.mono (by decide), ok2.mono (by decide), fun pl2 H10 m10 P10 => ?_⟩
    have m510 := m59.trans m10
    have P6 := P6.same (m7.trans (m8.trans (m9.trans m10)))
    obtain ⟨dp1, l1, l2, l3, hpl, _⟩ := id P6
    obtain ⟨dp2, l4, l5, l6, hpl2, _⟩ := id P10
    refine ⟨_, rfl, pl2, pl, dp2, dp1, _, _, rfl, rfl, hpl2, hpl, pl2, pl, _, _, true, rfl, P10, P6, okp, okp, ⟨fun _ => rfl, fun _ => rfl⟩, true, rfl, _, rfl, iteF ?_⟩
    have hb := m510 _ _ hb
    have B1 := B1.same m510
    have B2 := B2.same m510
    have D1 := D1.same m510
    have D2 := D2.same m510
    have hS10 := m510.seq hS5
    clear m6 m7 m8 m9 m10 m57 m59 m510 hb1 hb2 W1 W2 hw1 hw2 U1 hu1 P10 hpl hpl2 hS5
    -- is
    refine ⟨_, rfl, bl, _, _, _, rfl, rfl, SqL.of hb, rfl, _, rfl, _, rfl, b1, o1, x, wd, rfl, B1, D1.mono (by decide), ok1.mono (by decide), w0, sw, fun H11 m11 => ⟨true, rfl, iteF ?_⟩⟩
    refine ⟨_, rfl, bl, _, _, _, rfl, rfl, SqL.of (m11 _ _ hb), rfl, _, rfl, _, rfl, b2, o2, y, wd, rfl, B2.same m11, (D2.same m11).mono (by decide), ok2.mono (by decide), w0, sw, fun H12 m12 => ⟨true, rfl, iteF ?_⟩⟩
    have m := m11.trans m12
    refine ⟨_, rfl, o1, x, rfl, (D1.same m).mono (by decide), ok1.mono (by decide), fun u2 H13 m13 U2 => ?_⟩
    have m := m.trans m13
    refine ⟨_, rfl, _, rfl, u2, o1, x, wd, rfl, U2, (D1.same m).mono (by decide), ok1.mono (by decide), w0, sw, fun H14 m14 => ⟨true, rfl, iteF ?_⟩⟩
    have m := m.trans m14
    refine ⟨_, rfl, _, rfl, _, rfl, o1, o2, x, y, rfl, D1.same m, D2.same m, ok1, ok2, fun po H15 m15 PO => ?_⟩
    have m := m.trans m15
    refine ⟨_, rfl, pl, po, x.plus y, wd, rfl, P6.same m, PO, okp, w0, sw, fun H16 m16 => ⟨true, rfl, iteF ?_⟩⟩
    have m := m.trans m16
    have D1 := D1.same m
    have D2 := D2.same m
    have hS16 := m.seq hS10
    clear m m11 m12 m13 m14 m15 m16 hb B1 B2 U2 PO P6 hS10
    -- inner
    refine ⟨_, rfl, o1, x, rfl, D1.mono (by decide), ok1.mono (by decide), fun u3 H17 m17 U3 => ?_⟩
    obtain ⟨du3, i1, i2, i3, hu3, _⟩ := id U3
    refine ⟨u3, du3, _, rfl, hu3, nb.2.2, _, rfl, u3, x, n, rfl, U3, ok1, n0, sn, fun inn H18 m18 I18 => ?_⟩
    have m := m17.trans m18
    -- empty
    refine ⟨two2, fun t1 h1 => ⟨two2, fun t2 h2 => ⟨two2, fun t3 h3 => ⟨three3, fun t4 h4 => ⟨two2, fun t5 h5 => ?_⟩⟩⟩⟩⟩
    have n1 := same_new h1 (.tup [.int 0, .int 1])
    have n2 := same_new h2 (.tup [.int 0, .int 1])
    have n3 := same_new h3 (.tup [.int 0, .int 1])
    have n4 := same_new h4 (.lst [.ref t1, .ref t2, .ref t3])
    have n5 := same_new h5 (.tup [.ref t4, .non])
    have zz : ∀ {H' : Hp} {t : Addr}, H' t = some (.tup [.int 0, .int 1]) → PV H' t 100 0 := fun h => ⟨0, 1, h, by decide, by decide, by decide, fr_int 0⟩
    have D0 : DV _ t5 100 Bq.zero := ⟨t4, t1, t2, t3, upd_same, n5 _ _ upd_same, zz (n5 _ _ (n4 _ _ (n3 _ _ (n2 _ _ upd_same)))), zz (n5 _ _ (n4 _ _ (n3 _ _ upd_same))), zz (n5 _ _ (n4 _ _ upd_same))⟩
    have mn := n1.trans (n2.trans (n3.trans (n4.trans n5)))
    have m := m.trans mn
    have I18 := I18.same mn
    have D1 := D1.same m
    have D2 := D2.same m
    have hS18 := m.seq hS16
    clear m m17 m18 U3 hu3 hS16 n1 n2 n3 n4 n5 mn
    refine ⟨_, rfl, _, rfl, _, rfl, o1, x, n, rfl, D1, ok1, n0, sn, fun lw H20 m20 LW => ?_⟩
    refine ⟨_, rfl, inn, lw, x.within n, wd, rfl, I18.same m20, LW, okw, w0, sw, fun H21 m21 => ⟨true, rfl, iteF ?_⟩⟩
    have ok0 : Bq.zero.Ok 100 := ⟨by decide, by decide, by decide, ⟨by decide, by decide⟩, ⟨by decide, by decide⟩, ⟨by decide, by decide⟩, fun l e => nomatch e⟩
    have m := m20.trans m21
    refine ⟨rfl, fun no H22 m22 NO => ?_⟩
    have m := m.trans m22
    refine ⟨_, rfl, _, rfl, no, t5, Bq.zero, wd, rfl, NO, D0.same m, ok0, w0, sw, fun H23 m23 => ⟨true, rfl, iteF ?_⟩⟩
    have m := m.trans m23
    have I18 := I18.same m
    have D1 := D1.same m
    have D2 := D2.same m
    have hS23 := m.seq hS18
    clear m m20 m21 m22 m23 LW NO D0 hS18
    -- the loop over calls
    refine ⟨9, rfl, fun r hr' => ⟨r, 9, rfl, upd_same, by decide, fun l1 hl1 => ?_⟩⟩
    have m7 := same_new hr' (.rng 0 9)
    have m8 := same_new hl1 (.lst ((List.range 9).map fun i => V.int (i : Nat)))
    refine ⟨_, rfl, one1, fun l2 hl2 => ?_⟩
    have m9 := same_new hl2 (.lst [.int wd])
    refine ⟨l1, l2, _, _, rfl, rfl, m9 _ _ upd_same, upd_same, (by show _ + 1 ≤ sizeLine; rw [List.length_map, List.length_range]; decide), fun l3 hl3 => ?_⟩
    have ei := ints_of 9 [wd]
    have em : (([wd] : List Int).map V.int) = [.int wd] := rfl
    rw [em] at ei
    rw [ei]
    have m10 := same_new hl3 (.lst ((((List.range 9).map fun i : Nat => Int.ofNat i) ++ [wd]).map V.int))
    have e10 := upd_same (H := upd (upd (upd H23 r (.rng 0 9)) l1 (.lst ((List.range 9).map fun i => V.int (i : Nat)))) l2 (.lst [.int wd])) (a := l3) (o := .lst ((((List.range 9).map fun i : Nat => Int.ofNat i) ++ [wd]).map V.int))
    have m11 := m7.trans (m8.trans (m9.trans m10))
    have I18 := I18.same m11
    have D1 := D1.same m11
    have D2 := D2.same m11
    have hS24 := m11.seq hS23
    revert e10 I18 D1 D2 hS24
    clear m7 m8 m9 m10 m11
    generalize upd (upd (upd (upd H23 r _) l1 _) l2 _) l3 _ = H24
    intro e10 I18 D1 D2 hS24
    refine ⟨l3, rfl, ⟨_, SqL.of e10⟩, for_list (K := K) (a := l3) (xs := (((List.range 9).map fun i : Nat => Int.ofNat i) ++ [wd]).map V.int) (fun i σ H' => Same H24 H' ∧ ∃ v9 : Option V, σ = [some (.ref sa), some (.ref o1), some (.ref o2), some (.int n), some (.int wd), some (.ref bl), some (.ref pl), some (.ref inn), some (.ref t5), v9, none, none, none, none, none, none, none]) ⟨Same.refl _, none, rfl⟩ (fun i σ H' _ h => SqL.of (h.1 _ _ e10)) ?_ ?_⟩
    · rintro i v σ H25 hv ⟨m25, v9, rfl⟩
      have it : ∃ q : Int, v = .int q ∧ 0 ≤ q ∧ Sm 30 q := by
        have hm := List.mem_of_getElem? hv
        obtain ⟨q, hq, rfl⟩ := List.mem_map.mp hm
        refine ⟨q, rfl, ?_⟩
        rcases List.mem_append.mp hq with y | y
        · obtain ⟨j, hj, rfl⟩ := List.mem_map.mp y
          have := List.mem_range.mp hj
          have h9 : (0 : Int) ≤ (j : Int) ∧ Sm 30 (j : Int) := ⟨by omega, by show ((j : Nat) : Int).natAbs < 1073741824; omega⟩
          exact h9
        · rw [List.mem_singleton.mp y]
          exact ⟨w0, sw⟩
      obtain ⟨q, rfl, q0, sq⟩ := it
      have I25 := I18.same m25
      obtain ⟨di, i1, i2, i3, hi, _⟩ := id I25
      refine ⟨_, rfl, inn, di, _, rfl, hi, nb.1, _, rfl, inn, x.within n, q, rfl, I25, okw, q0, sq.mono (by decide), fun r1 H26 m26 R1 => ?_⟩
      obtain ⟨dr, hr1⟩ := id R1
      have m := m25.trans m26
      refine ⟨r1, dr, _, rfl, hr1, rf_no _ (by decide +kernel) (by decide +kernel), _, rfl, o1, x, rfl, (D1.same m).mono (by decide), ok1.mono (by decide), fun u4 H27 m27 U4 => ?_⟩
      obtain ⟨du4, i4, i5, i6, hu4, _⟩ := id U4
      refine ⟨u4, du4, _, rfl, hu4, nb.1, _, rfl, _, rfl, _, _, rfl, rfl, cmul sn sq, u4, x, n * q, rfl, U4, ok1.mono (by decide), Int.mul_nonneg n0 q0, Sm.mono (mul_lt2 sn sq) (by decide), fun r2 H28 m28 R2 => ?_⟩
      have snq : Sm 64 (n * q) := Sm.mono (mul_lt2 sn sq) (by decide)
      refine ⟨r1, r2, _, _, rfl, R1.same (m27.trans m28), R2, (Bq.sz_at okw q0 (sq.mono (by decide))).mono (by decide), (Bq.sz_at (ok1.mono (by decide)) (Int.mul_nonneg n0 q0) snq).mono (by decide), _, rfl, ?_⟩
      refine ite_no ?_ ⟨m.trans (m27.trans m28), _, rfl⟩
      show ¬ decide ((x.within n).at q < x.at (n * q)) = true
      rw [decide_eq_false (Bq.within_at x ok1 n0 q0)]
      exact Bool.false_ne_true
    rintro σ H25 ⟨m25, v9, rfl⟩
    have D1 := D1.same m25
    have D2 := D2.same m25
    have hS25 := m25.seq hS24
    clear I18 m25 e10 hS24
    -- equal
    refine ⟨_, rfl, o1, x, rfl, D1.mono (by decide), ok1.mono (by decide), fun u5 H26 m26 U5 => ?_⟩
    refine ⟨_, rfl, o2, y, rfl, (D2.same m26).mono (by decide), ok2.mono (by decide), fun u6 H27 m27 U6 => ?_⟩
    have U5 := U5.same m27
    obtain ⟨du5, i1, i2, i3, hu5, _⟩ := id U5
    obtain ⟨du6, i4, i5, i6, hu6, _⟩ := id U6
    have m := m26.trans m27
    refine ⟨u5, u6, du5, du6, _, _, rfl, rfl, hu5, hu6, u5, u6, x, y, PyData.eqv (toldD x) (toldD y), rfl, U5, U6, ok1.mono (by decide), ok2.mono (by decide), told_eqv x y, ?_⟩
    refine ⟨_, rfl, o1, x, rfl, (D1.same m).mono (by decide), fun ta H28 m28 TA => ?_⟩
    refine ⟨_, rfl, o2, y, rfl, (D2.same (m.trans m28)).mono (by decide), fun tb H29 m29 TB => ?_⟩
    refine ⟨toldD x, toldD y, told_dp (told_same TA m29), told_dp TB, told_shaped x, told_shaped y, rfl, _, rfl, ite_no (by simp) ?_⟩
    have m := m.trans (m28.trans m29)
    have D1 := D1.same m
    have hS29 := m.seq hS25
    clear m m26 m27 m28 m29 U5 U6 hu5 hu6 TA TB D2 hS25
    -- low, zero
    have sml : ∀ z : Int, -1000 < z → z < 1000 → Sm 1300 z := fun z h1 h2 => Sm.mono (j := 10) (by show z.natAbs < 1024; omega) (by decide)
    refine ⟨_, rfl, fun x1 e1 nx1 nd1 ne1 => ⟨x1, e1, -1, 3, rfl, upd_same, sml _ (by decide) (by decide), sml _ (by decide) (by decide), fun z => absurd z (by decide), fun _ H30 RL k30 => ⟨rfl, ?_⟩⟩⟩
    have m30 := same_upd nx1 nd1 k30
    refine fun x2 e2 nx2 nd2 ne2 => ⟨x2, e2, 0, 1, rfl, upd_same, sml _ (by decide) (by decide), sml _ (by decide) (by decide), fun z => absurd z (by decide), fun _ H31 RZ k31 => ⟨rfl, ?_⟩⟩
    have m31 := same_upd nx2 nd2 k31
    have RL := RL.same m31
    have low : fr (-1) 3 < 0 := by decide
    have ez : fr 0 1 = 0 := fr_int 0
    rw [ez] at RZ
    generalize fr (-1) 3 = lo at RL low
    have D1 := D1.same (m30.trans m31)
    have hS31 := (m30.trans m31).seq hS29
    clear m30 m31 hS29
    have nl : ∀ {a b c : Rat} {l : Option Int}, (a < 0 ∨ b < 0 ∨ c < 0 ∨ ∃ i, l = some i ∧ i < 0) → ¬ Good0 ⟨a, b, c, l⟩ := by
      intro a b c l h g
      obtain ⟨g1, g2, g3, g4⟩ := g
      rcases h with h | h | h | ⟨i, e, h⟩
      · exact Rat.not_le.mpr h g1
      · exact Rat.not_le.mpr h g2
      · exact Rat.not_le.mpr h g3
      · exact absurd (g4 i e) (by omega)
    refine ⟨_, rfl, _, rfl, _, rfl, x1, x2, x2, ⟨lo, 0, 0, none⟩, rfl, RL, RZ, RZ, nl (.inl low), fun H32 m32 => ⟨true, rfl, iteF ?_⟩⟩
    refine ⟨_, rfl, _, rfl, _, rfl, x2, x1, x2, ⟨0, lo, 0, some 3⟩, rfl, RZ.same m32, RL.same m32, RZ.same m32, nl (.inr (.inl low)), fun H33 m33 => ⟨true, rfl, iteF ?_⟩⟩
    have m := m32.trans m33
    have RL := RL.same m
    have RZ := RZ.same m
    have D1 := D1.same m
    have hS33 := m.seq hS31
    clear m m32 m33 hS31
    -- parts
    obtain ⟨dl, pa_, pb_, pc_, hd, hl, p1, p2, p3⟩ := id D1
    have mon : Mon (fun H a j => RV T.C_Ratio H a (Bq.sel x j)) := fun H H' a j e ⟨dx, h⟩ => ⟨dx, e _ _ h (fun _ z => nomatch z)⟩
    refine ⟨_, rfl, o1, _, _, _, rfl, rfl, SqT.of hd, rfl, dl, rfl, ⟨_, SqL.of hl⟩, fun D hDn => ?_⟩
    refine lc_list (K := K) (a := dl) (xs := [.ref pa_, .ref pb_, .ref pc_]) (fun i H' => ∃ us, It (fun H a j => RV T.C_Ratio H a (Bq.sel x j)) H33 H' D us ∧ us.length = i) ⟨[], It.start hDn, rfl⟩ (fun i H' _ ⟨_, q, _⟩ => SqL.of (q.s _ _ hl)) ?_ ?_
    · rintro i y9 H34 hy ⟨us, it, hu⟩
      have hi : i < 3 := (List.getElem?_eq_some_iff.mp hy).1
      obtain ⟨r, rfl, n9, d9, hr0, d0, sn9, sd9, eq⟩ := sel3 p1 p2 p3 hy
      have hr2 := it.s _ _ hr0
      refine ⟨rfl, ?_⟩
      refine ⟨_, rfl, r, _, _, _, rfl, rfl, SqT.of hr2, rfl, _, rfl, r, _, _, _, rfl, rfl, SqT.of hr2, rfl, fun x3 d3 nx3 nd3 ne3 => ?_⟩
      refine ⟨x3, d3, n9, d9, rfl, upd_same, sn9.mono (by decide), sd9.mono (by decide), fun z => absurd d0 (by omega), fun _ H35 R3 k3 => ⟨rfl, ?_⟩⟩
      have it' := it.grow mon (same_upd nx3 nd3 k3)
      rw [eq] at R3
      subst hu
      exact ⟨us, it'.l, Nat.lt_of_lt_of_le (show us.length < 4 by omega) (by decide), us ++ [.ref x3], it'.add mon R3, by rw [List.length_append]; rfl⟩
    rintro H34 ⟨us, it, hu⟩
    obtain ⟨v1, v2, v3, rfl⟩ := three_of hu
    obtain ⟨a1, rfl, A1⟩ := it.e 0 v1 rfl
    obtain ⟨a2, rfl, A2⟩ := it.e 1 v2 rfl
    obtain ⟨a3, rfl, A3⟩ := it.e 2 v3 rfl
    have A1 : RV T.C_Ratio H34 a1 x.a := A1
    have A2 : RV T.C_Ratio H34 a2 x.b := A2
    have A3 : RV T.C_Ratio H34 a3 x.c := A3
    have hD := it.l
    have RL := RL.same it.s
    have RZ := RZ.same it.s
    have hd := it.s _ _ hd
    have hS34 := it.s.seq hS33
    clear it hS33 D1 hl p1 p2 p3 hu hDn mon
    -- below
    refine ⟨_, rfl, _, rfl, sa, ns, 2, rfl, hS34, by decide, fun c5 => .inl ⟨_, rfl, _, _, rfl, rfl, cdiv (k := 4) (by decide) (by decide), _, _, rfl, rfl, (by show (0 : Int) < 90; decide), _, _, rfl, rfl, ?_⟩⟩
    refine ⟨_, rfl, _, _, rfl, rfl, (by show (0 : Int) < 50; decide), _, _, rfl, rfl, ?_⟩
    have z1 := Int.emod_nonneg (c5 / 7) (by decide : (90 : Int) ≠ 0)
    have z2 := Int.emod_lt_of_pos (c5 / 7) (by decide : (0 : Int) < 90)
    have z3 := Int.emod_nonneg wd (by decide : (50 : Int) ≠ 0)
    have z4 := Int.emod_lt_of_pos wd (by decide : (0 : Int) < 50)
    dsimp only
    have bn1 : -1 - c5 / 7 % 90 < 0 := by omega
    have bn2 : Sm 1300 (-1 - c5 / 7 % 90) := sml _ (by omega) (by omega)
    have bd1 : 0 < 1 + wd % 50 := by omega
    have bd2 : Sm 1300 (1 + wd % 50) := sml _ (by omega) (by omega)
    generalize -1 - c5 / 7 % 90 = bn at *
    generalize 1 + wd % 50 = bd at *
    refine fun x4 e4 nx4 nd4 ne4 => ⟨x4, e4, bn, bd, rfl, upd_same, bn2, bd2, fun z => absurd bd1 (by omega), fun _ H35 RB k35 => ⟨rfl, ?_⟩⟩
    have m35 := same_upd nx4 nd4 k35
    have neg : fr bn bd < 0 := by
      refine Rat.not_le.mp fun z => ?_
      have := (fr_nonneg bd1).mp z
      omega
    generalize fr bn bd = bq at RB neg
    have hD := m35 _ _ hD
    have hd := m35 _ _ hd
    have A1 := A1.same m35
    have A2 := A2.same m35
    have A3 := A3.same m35
    have RL := RL.same m35
    have RZ := RZ.same m35
    clear m35 hS34
    refine ⟨_, rfl, by decide, by decide, for_range (lo := 0) (n := 3) (fun i σ H' => Same H35 H' ∧ ∃ v15 v16 : Option V, σ = [some (.ref sa), some (.ref o1), some (.ref o2), some (.int n), some (.int wd), some (.ref bl), some (.ref pl), some (.ref inn), some (.ref t5), v9, some (.ref x1), some (.ref x2), some (.ref D), none, some (.ref x4), v15, v16]) ⟨Same.refl _, none, none, rfl⟩ ?_ ?_⟩
    · rintro i σ H36 hi ⟨m36, v15, v16, rfl⟩
      have hD36 := m36 _ _ hD
      have fit : ∀ k, k ≤ 5 → k ≤ sizeLine := fun k h => Nat.le_trans h (by decide)
      have key : ∃ (r1 r2 r3 : Addr) (z : Bq), cutV ([.ref a1, .ref a2, .ref a3] : List V) none (some (0 + (i : Int))) ++ [.ref x4] ++ cutV ([.ref a1, .ref a2, .ref a3] : List V) (some (0 + (i : Int) + 1)) none = [.ref r1, .ref r2, .ref r3] ∧ z.lim = x.lim ∧
          RV T.C_Ratio H35 r1 z.a ∧ RV T.C_Ratio H35 r2 z.b ∧ RV T.C_Ratio H35 r3 z.c ∧ ¬ Good0 z ∧ (cutV ([.ref a1, .ref a2, .ref a3] : List V) none (some (0 + (i : Int)))).length ≤ 3 ∧ (cutV ([.ref a1, .ref a2, .ref a3] : List V) (some (0 + (i : Int) + 1)) none).length ≤ 3 := by
        have : i = 0 ∨ i = 1 ∨ i = 2 := by omega
        rcases this with rfl | rfl | rfl
        · exact ⟨x4, a2, a3, ⟨bq, x.b, x.c, x.lim⟩, rfl, rfl, RB, A2, A3, nl (.inl neg), show (0 : Nat) ≤ 3 by decide, show (2 : Nat) ≤ 3 by decide⟩
        · exact ⟨a1, x4, a3, ⟨x.a, bq, x.c, x.lim⟩, rfl, rfl, A1, RB, A3, nl (.inr (.inl neg)), show (1 : Nat) ≤ 3 by decide, show (1 : Nat) ≤ 3 by decide⟩
        · exact ⟨a1, a2, x4, ⟨x.a, x.b, bq, x.lim⟩, rfl, rfl, A1, A2, RB, nl (.inr (.inr (.inl neg))), show (2 : Nat) ≤ 3 by decide, show (0 : Nat) ≤ 3 by decide⟩
      obtain ⟨r1, r2, r3, z, er, ezl, Z1, Z2, Z3, ng, L1, L2⟩ := key
      refine ⟨_, rfl, _, rfl, _, rfl, D, _, rfl, SqL.of hD36, fun s1 hs1 => ?_⟩
      have n1 := same_new hs1 (.lst (cutV ([.ref a1, .ref a2, .ref a3] : List V) none (some (0 + (i : Int)))))
      refine ⟨_, rfl, one1, fun s2 hs2 => ?_⟩
      have n2 := same_new hs2 (.lst [.ref x4])
      refine ⟨s1, s2, _, _, rfl, rfl, n2 _ _ upd_same, upd_same, (fit _ (by show _ + 1 ≤ 5; omega)), fun s3 hs3 => ?_⟩
      have n3 := same_new hs3 (.lst (cutV ([.ref a1, .ref a2, .ref a3] : List V) none (some (0 + (i : Int))) ++ [.ref x4]))
      refine ⟨_, rfl, _, rfl, _, _, rfl, rfl, _, rfl, D, _, rfl, SqL.of (n3 _ _ (n2 _ _ (n1 _ _ hD36))), fun s4 hs4 => ?_⟩
      have n4 := same_new hs4 (.lst (cutV ([.ref a1, .ref a2, .ref a3] : List V) (some (0 + (i : Int) + 1)) none))
      refine ⟨s3, s4, _, _, rfl, rfl, n4 _ _ upd_same, upd_same, (by rw [List.length_append]; exact Nat.le_trans (show _ + 1 + _ ≤ 7 by omega) (by decide)), fun s5 hs5 => ?_⟩
      rw [er]
      have n5 := same_new hs5 (.lst [.ref r1, .ref r2, .ref r3])
      have m := m36.trans (n1.trans (n2.trans (n3.trans (n4.trans n5))))
      refine ⟨_, rfl, s5, _, _, _, rfl, rfl, SqL.of upd_same, rfl, _, rfl, s5, _, _, _, rfl, rfl, SqL.of upd_same, rfl, _, rfl, s5, _, _, _, rfl, rfl, SqL.of upd_same, rfl, _, rfl, o1, _, _, _, rfl, rfl, SqT.of (m _ _ hd), rfl, r1, r2, r3, z, by rw [ezl]; rfl, Z1.same m, Z2.same m, Z3.same m, ng, fun H37 m37 => ⟨true, rfl, iteF ?_⟩⟩
      exact ⟨m.trans m37, _, _, rfl⟩
    rintro σ H36 ⟨m36, v15, v16, rfl⟩
    have hD := m36 _ _ hD
    have RL := RL.same m36
    have RZ := RZ.same m36
    have hDL := SqL.of (K := K) hD
    refine ⟨_, rfl, D, _, _, _, rfl, rfl, hDL, rfl, _, rfl, D, _, _, _, rfl, rfl, hDL, rfl, _, rfl, D, _, _, _, rfl, rfl, hDL, rfl, _, rfl, _, rfl, _, _, rfl, rfl, (by show (0 : Int) < 7; decide), _, _, rfl, rfl, a1, a2, a3, ⟨x.a, x.b, x.c, some (-1 - wd % 7)⟩, rfl, A1.same m36, A2.same m36, A3.same m36, nl (.inr (.inr (.inr ⟨_, rfl, ?_⟩))), fun H37 m37 => ⟨true, rfl, iteF ?_⟩⟩
    · have := Int.emod_nonneg wd (by decide : (7 : Int) ≠ 0)
      omega
    refine ⟨_, rfl, _, rfl, _, rfl, x2, x2, x1, ⟨0, 0, lo, none⟩, rfl, RZ.same m37, RZ.same m37, RL.same m37, nl (.inr (.inr (.inl low))), fun H38 m38 => ⟨true, rfl, iteT ?_⟩⟩
    have RZ := (RZ.same m37).same m38
    exact ⟨_, rfl, _, rfl, _, rfl, _, rfl, x2, x2, x2, ⟨0, 0, 0, some (-1)⟩, rfl, RZ, RZ, RZ, nl (.inr (.inr (.inr ⟨_, rfl, by decide⟩))), fun H39 m39 => q _⟩
  · have n0 := Int.emod_nonneg c1 (by decide : (6 : Int) ≠ 0)
    have n9 := Int.emod_lt_of_pos c1 (by decide : (0 : Int) < 6)
    dsimp only
    generalize c1 % 6 = n at *
    have sn : Sm 10 n := by show n.natAbs < 1024; omega
    refine ⟨_, rfl, sa, ns, 3, rfl, hS2, by decide, fun c4 => ⟨_, rfl, _, _, rfl, rfl, (by show (0 : Int) < 1000000; decide), ?_⟩⟩
    have w0 := Int.emod_nonneg (if c4 < 0 then -c4 else c4) (by decide : (1000000 : Int) ≠ 0)
    have w1 := Int.emod_lt_of_pos (if c4 < 0 then -c4 else c4) (by decide : (0 : Int) < 1000000)
    dsimp only
    generalize (if c4 < 0 then -c4 else c4) % 1000000 = wd at *
    have sw : Sm 30 wd := by show wd.natAbs < 1073741824; omega
    -- bounds
    refine ⟨_, rfl, o1, x, rfl, D1.mono (by decide), ok1.mono (by decide), fun b1 H3 m3 B1 => ?_⟩
    refine ⟨_, rfl, o2, y, rfl, (D2.same m3).mono (by decide), ok2.mono (by decide), fun b2 H4 m4 B2 => ⟨two2, fun bl hbl => ?_⟩⟩
    have m5 := same_new hbl (.lst [.ref b1, .ref b2])
    have hb := upd_same (H := H4) (a := bl) (o := .lst [.ref b1, .ref b2])
    have B1 := B1.same (m4.trans m5)
    have B2 := B2.same m5
    have m25 := m3.trans (m4.trans m5)
    have D1 := D1.same m25
    have D2 := D2.same m25
    have hS5 := m25.seq hS2
    revert hb B1 B2 D1 D2 hS5
    generalize upd H4 bl _ = H5
    intro hb B1 B2 D1 D2 hS5
    clear m3 m4 m5 m25 hbl hS2
    obtain ⟨d1, f1, f2, f3, hb1, _⟩ := id B1
    obtain ⟨d2, g1, g2, g3, hb2, _⟩ := id B2
    -- plus
    refine ⟨_, rfl, bl, _, _, _, rfl, rfl, SqL.of hb, rfl, b1, d1, _, rfl, hb1, nb.2.1, _, rfl, bl, _, _, _, rfl, rfl, SqL.of hb, rfl, b1, b2, x, y, rfl, B1, B2, ok1.mono (by decide), ok2.mono (by decide), fun pl H6 m6 P6 => ?_⟩
    have okp : (x.plus y).Ok 100 := (Bq.plus_ok ok1 ok2).mono (by decide)
    have okw : (x.within n).Ok 100 := Bq.within_ok ok1 n0 sn
    -- within twice
    refine ⟨_, rfl, bl, _, _, _, rfl, rfl, SqL.of (m6 _ _ hb), rfl, b1, d1, _, rfl, m6 _ _ hb1, nb.2.2, _, rfl, b1, x, n, rfl, B1.same m6, ok1, n0, sn, fun w1 H7 m7 W1 => ?_⟩
    have m57 := m6.trans m7
    refine ⟨_, rfl, o1, x, rfl, (D1.same m57).mono (by decide), ok1.mono (by decide), fun u1 H8 m8 U1 => ?_⟩
    obtain ⟨du, i1, i2, i3, hu1, _⟩ := id U1
    refine ⟨u1, du, _, rfl, hu1, nb.2.2, _, rfl, u1, x, n, rfl, U1, ok1, n0, sn, fun w2 H9 m9 W2 => ?_⟩
    have W1 := W1.same (m8.trans m9)
    obtain ⟨dw1, j1, j2, j3, hw1, _⟩ := id W1
    obtain ⟨dw2, k1, k2, k3, hw2, _⟩ := id W2
    have m59 := m57.trans (m8.trans m9)
    refine ⟨w1, w2, dw1, dw2, _, _, rfl, rfl, hw1, hw2, w1, w2, _, _, true, rfl, W1, W2, okw, okw, ⟨fun _ => rfl, fun _ => rfl⟩, true, rfl, _, rfl, iteF ?_⟩
    -- plus again
    refine ⟨_, rfl, bl, _, _, _, rfl, rfl, SqL.of (m59 _ _ hb), rfl, b1, d1, _, rfl, m59 _ _ hb1, nb.2.1, _, rfl, bl, _, _, _, rfl, rfl, SqL.of (m59 _ _ hb), rfl, b1, b2, x, y, rfl, B1.same m59, B2.same m59, ok1.mono (by decide), ok2.mono (by decide), fun pl2 H10 m10 P10 => ?_⟩
    have m510 := m59.trans m10
    have P6 := P6.same (m7.trans (m8.trans (m9.trans m10)))
    obtain ⟨dp1, l1, l2, l3, hpl, _⟩ := id P6
    obtain ⟨dp2, l4, l5, l6, hpl2, _⟩ := id P10
    refine ⟨_, rfl, pl2, pl, dp2, dp1, _, _, rfl, rfl, hpl2, hpl, pl2, pl, _, _, true, rfl, P10, P6, okp, okp, ⟨fun _ => rfl, fun _ => rfl⟩, true, rfl, _, rfl, iteF ?_⟩
    have hb := m510 _ _ hb
    have B1 := B1.same m510
    have B2 := B2.same m510
    have D1 := D1.same m510
    have D2 := D2.same m510
    have hS10 := m510.seq hS5
    clear m6 m7 m8 m9 m10 m57 m59 m510 hb1 hb2 W1 W2 hw1 hw2 U1 hu1 P10 hpl hpl2 hS5
    -- is
    refine ⟨_, rfl, bl, _, _, _, rfl, rfl, SqL.of hb, rfl, _, rfl, _, rfl, b1, o1, x, wd, rfl, B1, D1.mono (by decide), ok1.mono (by decide), w0, sw, fun H11 m11 => ⟨true, rfl, iteF ?_⟩⟩
    refine ⟨_, rfl, bl, _, _, _, rfl, rfl, SqL.of (m11 _ _ hb), rfl, _, rfl, _, rfl, b2, o2, y, wd, rfl, B2.same m11, (D2.same m11).mono (by decide), ok2.mono (by decide), w0, sw, fun H12 m12 => ⟨true, rfl, iteF ?_⟩⟩
    have m := m11.trans m12
    refine ⟨_, rfl, o1, x, rfl, (D1.same m).mono (by decide), ok1.mono (by decide), fun u2 H13 m13 U2 => ?_⟩
    have m := m.trans m13
    refine ⟨_, rfl, _, rfl, u2, o1, x, wd, rfl, U2, (D1.same m).mono (by decide), ok1.mono (by decide), w0, sw, fun H14 m14 => ⟨true, rfl, iteF ?_⟩⟩
    have m := m.trans m14
    refine ⟨_, rfl, _, rfl, _, rfl, o1, o2, x, y, rfl, D1.same m, D2.same m, ok1, ok2, fun po H15 m15 PO => ?_⟩
    have m := m.trans m15
    refine ⟨_, rfl, pl, po, x.plus y, wd, rfl, P6.same m, PO, okp, w0, sw, fun H16 m16 => ⟨true, rfl, iteF ?_⟩⟩
    have m := m.trans m16
    have D1 := D1.same m
    have D2 := D2.same m
    have hS16 := m.seq hS10
    clear m m11 m12 m13 m14 m15 m16 hb B1 B2 U2 PO P6 hS10
    -- inner
    refine ⟨_, rfl, o1, x, rfl, D1.mono (by decide), ok1.mono (by decide), fun u3 H17 m17 U3 => ?_⟩
    obtain ⟨du3, i1, i2, i3, hu3, _⟩ := id U3
    refine ⟨u3, du3, _, rfl, hu3, nb.2.2, _, rfl, u3, x, n, rfl, U3, ok1, n0, sn, fun inn H18 m18 I18 => ?_⟩
    have m := m17.trans m18
    -- empty
    refine ⟨two2, fun t1 h1 => ⟨two2, fun t2 h2 => ⟨two2, fun t3 h3 => ⟨three3, fun t4 h4 => ⟨two2, fun t5 h5 => ?_⟩⟩⟩⟩⟩
    have n1 := same_new h1 (.tup [.int 0, .int 1])
    have n2 := same_new h2 (.tup [.int 0, .int 1])
    have n3 := same_new h3 (.tup [.int 0, .int 1])
    have n4 := same_new h4 (.lst [.ref t1, .ref t2, .ref t3])
    have n5 := same_new h5 (.tup [.ref t4, .non])
    have zz : ∀ {H' : Hp} {t : Addr}, H' t = some (.tup [.int 0, .int 1]) → PV H' t 100 0 := fun h => ⟨0, 1, h, by decide, by decide, by decide, fr_int 0⟩
    have D0 : DV _ t5 100 Bq.zero := ⟨t4, t1, t2, t3, upd_same, n5 _ _ upd_same, zz (n5 _ _ (n4 _ _ (n3 _ _ (n2 _ _ upd_same)))), zz (n5 _ _ (n4 _ _ (n3 _ _ upd_same))), zz (n5 _ _ (n4 _ _ upd_same))⟩
    have mn := n1.trans (n2.trans (n3.trans (n4.trans n5)))
    have m := m.trans mn
    have I18 := I18.same mn
    have D1 := D1.same m
    have D2 := D2.same m
    have hS18 := m.seq hS16
    clear m m17 m18 U3 hu3 hS16 n1 n2 n3 n4 n5 mn
    refine ⟨_, rfl, _, rfl, _, rfl, o1, x, n, rfl, D1, ok1, n0, sn, fun lw H20 m20 LW => ?_⟩
    refine ⟨_, rfl, inn, lw, x.within n, wd, rfl, I18.same m20, LW, okw, w0, sw, fun H21 m21 => ⟨true, rfl, iteF ?_⟩⟩
    have ok0 : Bq.zero.Ok 100 := ⟨by decide, by decide, by decide, ⟨by decide, by decide⟩, ⟨by decide, by decide⟩, ⟨by decide, by decide⟩, fun l e => nomatch e⟩
    have m := m20.trans m21
    refine ⟨rfl, fun no H22 m22 NO => ?_⟩
    have m := m.trans m22
    refine ⟨_, rfl, _, rfl, no, t5, Bq.zero, wd, rfl, NO, D0.same m, ok0, w0, sw, fun H23 m23 => ⟨true, rfl, iteF ?_⟩⟩
    have m := m.trans m23
    have I18 := I18.same m
    have D1 := D1.same m
    have D2 := D2.same m
    have hS23 := m.seq hS18
    clear m m20 m21 m22 m23 LW NO D0 hS18
    -- the loop over calls
    refine ⟨9, rfl, fun r hr' => ⟨r, 9, rfl, upd_same, by decide, fun l1 hl1 => ?_⟩⟩
    have m7 := same_new hr' (.rng 0 9)
    have m8 := same_new hl1 (.lst ((List.range 9).map fun i => V.int (i : Nat)))
    refine ⟨_, rfl, one1, fun l2 hl2 => ?_⟩
    have m9 := same_new hl2 (.lst [.int wd])
    refine ⟨l1, l2, _, _, rfl, rfl, m9 _ _ upd_same, upd_same, (by show _ + 1 ≤ sizeLine; rw [List.length_map, List.length_range]; decide), fun l3 hl3 => ?_⟩
    have ei := ints_of 9 [wd]
    have em : (([wd] : List Int).map V.int) = [.int wd] := rfl
    rw [em] at ei
    rw [ei]
    have m10 := same_new hl3 (.lst ((((List.range 9).map fun i : Nat => Int.ofNat i) ++ [wd]).map V.int))
    have e10 := upd_same (H := upd (upd (upd H23 r (.rng 0 9)) l1 (.lst ((List.range 9).map fun i => V.int (i : Nat)))) l2 (.lst [.int wd])) (a := l3) (o := .lst ((((List.range 9).map fun i : Nat => Int.ofNat i) ++ [wd]).map V.int))
    have m11 := m7.trans (m8.trans (m9.trans m10))
    have I18 := I18.same m11
    have D1 := D1.same m11
    have D2 := D2.same m11
    have hS24 := m11.seq hS23
    revert e10 I18 D1 D2 hS24
    clear m7 m8 m9 m10 m11
    generalize upd (upd (upd (upd H23 r _) l1 _) l2 _) l3 _ = H24
    intro e10 I18 D1 D2 hS24
    refine ⟨l3, rfl, ⟨_, SqL.of e10⟩, for_list (K := K) (a := l3) (xs := (((List.range 9).map fun i : Nat => Int.ofNat i) ++ [wd]).map V.int) (fun i σ H' => Same H24 H' ∧ ∃ v9 : Option V, σ = [some (.ref sa), some (.ref o1), some (.ref o2), some (.int n), some (.int wd), some (.ref bl), some (.ref pl), some (.ref inn), some (.ref t5), v9, none, none, none, none, none, none, none]) ⟨Same.refl _, none, rfl⟩ (fun i σ H' _ h => SqL.of (h.1 _ _ e10)) ?_ ?_⟩
    · rintro i v σ H25 hv ⟨m25, v9, rfl⟩
      have it : ∃ q : Int, v = .int q ∧ 0 ≤ q ∧ Sm 30 q := by
        have hm := List.mem_of_getElem? hv
        obtain ⟨q, hq, rfl⟩ := List.mem_map.mp hm
        refine ⟨q, rfl, ?_⟩
        rcases List.mem_append.mp hq with y | y
        · obtain ⟨j, hj, rfl⟩ := List.mem_map.mp y
          have := List.mem_range.mp hj
          have h9 : (0 : Int) ≤ (j : Int) ∧ Sm 30 (j : Int) := ⟨by omega, by show ((j : Nat) : Int).natAbs < 1073741824; omega⟩
          exact h9
        · rw [List.mem_singleton.mp y]
          exact ⟨w0, sw⟩
      obtain ⟨q, rfl, q0, sq⟩ := it
      have I25 := I18.same m25
      obtain ⟨di, i1, i2, i3, hi, _⟩ := id I25
      refine ⟨_, rfl, inn, di, _, rfl, hi, nb.1, _, rfl, inn, x.within n, q, rfl, I25, okw, q0, sq.mono (by decide), fun r1 H26 m26 R1 => ?_⟩
      obtain ⟨dr, hr1⟩ := id R1
      have m := m25.trans m26
      refine ⟨r1, dr, _, rfl, hr1, rf_no _ (by decide +kernel) (by decide +kernel), _, rfl, o1, x, rfl, (D1.same m).mono (by decide), ok1.mono (by decide), fun u4 H27 m27 U4 => ?_⟩
      obtain ⟨du4, i4, i5, i6, hu4, _⟩ := id U4
      refine ⟨u4, du4, _, rfl, hu4, nb.1, _, rfl, _, rfl, _, _, rfl, rfl, cmul sn sq, u4, x, n * q, rfl, U4, ok1.mono (by decide), Int.mul_nonneg n0 q0, Sm.mono (mul_lt2 sn sq) (by decide), fun r2 H28 m28 R2 => ?_⟩
      have snq : Sm 64 (n * q) := Sm.mono (mul_lt2 sn sq) (by decide)
      refine ⟨r1, r2, _, _, rfl, R1.same (m27.trans m28), R2, (Bq.sz_at okw q0 (sq.mono (by decide))).mono (by decide), (Bq.sz_at (ok1.mono (by decide)) (Int.mul_nonneg n0 q0) snq).mono (by decide), _, rfl, ?_⟩
      refine ite_no ?_ ⟨m.trans (m27.trans m28), _, rfl⟩
      show ¬ decide ((x.within n).at q < x.at (n * q)) = true
      rw [decide_eq_false (Bq.within_at x ok1 n0 q0)]
      exact Bool.false_ne_true
    rintro σ H25 ⟨m25, v9, rfl⟩
    have D1 := D1.same m25
    have D2 := D2.same m25
    have hS25 := m25.seq hS24
    clear I18 m25 e10 hS24
    -- equal
    refine ⟨_, rfl, o1, x, rfl, D1.mono (by decide), ok1.mono (by decide), fun u5 H26 m26 U5 => ?_⟩
    refine ⟨_, rfl, o2, y, rfl, (D2.same m26).mono (by decide), ok2.mono (by decide), fun u6 H27 m27 U6 => ?_⟩
    have U5 := U5.same m27
    obtain ⟨du5, i1, i2, i3, hu5, _⟩ := id U5
    obtain ⟨du6, i4, i5, i6, hu6, _⟩ := id U6
    have m := m26.trans m27
    refine ⟨u5, u6, du5, du6, _, _, rfl, rfl, hu5, hu6, u5, u6, x, y, PyData.eqv (toldD x) (toldD y), rfl, U5, U6, ok1.mono (by decide), ok2.mono (by decide), told_eqv x y, ?_⟩
    refine ⟨_, rfl, o1, x, rfl, (D1.same m).mono (by decide), fun ta H28 m28 TA => ?_⟩
    refine ⟨_, rfl, o2, y, rfl, (D2.same (m.trans m28)).mono (by decide), fun tb H29 m29 TB => ?_⟩
    refine ⟨toldD x, toldD y, told_dp (told_same TA m29), told_dp TB, told_shaped x, told_shaped y, rfl, _, rfl, ite_no (by simp) ?_⟩
    have m := m.trans (m28.trans m29)
    have D1 := D1.same m
    have hS29 := m.seq hS25
    clear m m26 m27 m28 m29 U5 U6 hu5 hu6 TA TB D2 hS25
    -- low, zero
    have sml : ∀ z : Int, -1000 < z → z < 1000 → Sm 1300 z := fun z h1 h2 => Sm.mono (j := 10) (by show z.natAbs < 1024; omega) (by decide)
    refine ⟨_, rfl, fun x1 e1 nx1 nd1 ne1 => ⟨x1, e1, -1, 3, rfl, upd_same, sml _ (by decide) (by decide), sml _ (by decide) (by decide), fun z => absurd z (by decide), fun _ H30 RL k30 => ⟨rfl, ?_⟩⟩⟩
    have m30 := same_upd nx1 nd1 k30
    refine fun x2 e2 nx2 nd2 ne2 => ⟨x2, e2, 0, 1, rfl, upd_same, sml _ (by decide) (by decide), sml _ (by decide) (by decide), fun z => absurd z (by decide), fun _ H31 RZ k31 => ⟨rfl, ?_⟩⟩
    have m31 := same_upd nx2 nd2 k31
    have RL := RL.same m31
    have low : fr (-1) 3 < 0 := by decide
    have ez : fr 0 1 = 0 := fr_int 0
    rw [ez] at RZ
    generalize fr (-1) 3 = lo at RL low
    have D1 := D1.same (m30.trans m31)
    have hS31 := (m30.trans m31).seq hS29
    clear m30 m31 hS29
    have nl : ∀ {a b c : Rat} {l : Option Int}, (a < 0 ∨ b < 0 ∨ c < 0 ∨ ∃ i, l = some i ∧ i < 0) → ¬ Good0 ⟨a, b, c, l⟩ := by
      intro a b c l h g
      obtain ⟨g1, g2, g3, g4⟩ := g
      rcases h with h | h | h | ⟨i, e, h⟩
      · exact Rat.not_le.mpr h g1
      · exact Rat.not_le.mpr h g2
      · exact Rat.not_le.mpr h g3
      · exact absurd (g4 i e) (by omega)
    refine ⟨_, rfl, _, rfl, _, rfl, x1, x2, x2, ⟨lo, 0, 0, none⟩, rfl, RL, RZ, RZ, nl (.inl low), fun H32 m32 => ⟨true, rfl, iteF ?_⟩⟩
    refine ⟨_, rfl, _, rfl, _, rfl, x2, x1, x2, ⟨0, lo, 0, some 3⟩, rfl, RZ.same m32, RL.same m32, RZ.same m32, nl (.inr (.inl low)), fun H33 m33 => ⟨true, rfl, iteF ?_⟩⟩
    have m := m32.trans m33
    have RL := RL.same m
    have RZ := RZ.same m
    have D1 := D1.same m
    have hS33 := m.seq hS31
    clear m m32 m33 hS31
    -- parts
    obtain ⟨dl, pa_, pb_, pc_, hd, hl, p1, p2, p3⟩ := id D1
    have mon : Mon (fun H a j => RV T.C_Ratio H a (Bq.sel x j)) := fun H H' a j e ⟨dx, h⟩ => ⟨dx, e _ _ h (fun _ z => nomatch z)⟩
    refine ⟨_, rfl, o1, _, _, _, rfl, rfl, SqT.of hd, rfl, dl, rfl, ⟨_, SqL.of hl⟩, fun D hDn => ?_⟩
    refine lc_list (K := K) (a := dl) (xs := [.ref pa_, .ref pb_, .ref pc_]) (fun i H' => ∃ us, It (fun H a j => RV T.C_Ratio H a (Bq.sel x j)) H33 H' D us ∧ us.length = i) ⟨[], It.start hDn, rfl⟩ (fun i H' _ ⟨_, q, _⟩ => SqL.of (q.s _ _ hl)) ?_ ?_
    · rintro i y9 H34 hy ⟨us, it, hu⟩
      have hi : i < 3 := (List.getElem?_eq_some_iff.mp hy).1
      obtain ⟨r, rfl, n9, d9, hr0, d0, sn9, sd9, eq⟩ := sel3 p1 p2 p3 hy
      have hr2 := it.s _ _ hr0
      refine ⟨rfl, ?_⟩
      refine ⟨_, rfl, r, _, _, _, rfl, rfl, SqT.of hr2, rfl, _, rfl, r, _, _, _, rfl, rfl, SqT.of hr2, rfl, fun x3 d3 nx3 nd3 ne3 => ?_⟩
      refine ⟨x3, d3, n9, d9, rfl, upd_same, sn9.mono (by decide), sd9.mono (by decide), fun z => absurd d0 (by omega), fun _ H35 R3 k3 => ⟨rfl, ?_⟩⟩
      have it' := it.grow mon (same_upd nx3 nd3 k3)
      rw [eq] at R3
      subst hu
      exact ⟨us, it'.l, Nat.lt_of_lt_of_le (show us.length < 4 by omega) (by decide), us ++ [.ref x3], it'.add mon R3, by rw [List.length_append]; rfl⟩
    rintro H34 ⟨us, it, hu⟩
    obtain ⟨v1, v2, v3, rfl⟩ := three_of hu
    obtain ⟨a1, rfl, A1⟩ := it.e 0 v1 rfl
    obtain ⟨a2, rfl, A2⟩ := it.e 1 v2 rfl
    obtain ⟨a3, rfl, A3⟩ := it.e 2 v3 rfl
    have A1 : RV T.C_Ratio H34 a1 x.a := A1
    have A2 : RV T.C_Ratio H34 a2 x.b := A2
    have A3 : RV T.C_Ratio H34 a3 x.c := A3
    have hD := it.l
    have RL := RL.same it.s
    have RZ := RZ.same it.s
    have hd := it.s _ _ hd
    have hS34 := it.s.seq hS33
    clear it hS33 D1 hl p1 p2 p3 hu hDn mon
    -- below
    refine ⟨_, rfl, _, rfl, sa, ns, 2, rfl, hS34, by decide, fun c5 => .inl ⟨_, rfl, _, _, rfl, rfl, cdiv (k := 4) (by decide) (by decide), _, _, rfl, rfl, (by show (0 : Int) < 90; decide), _, _, rfl, rfl, ?_⟩⟩
    refine ⟨_, rfl, _, _, rfl, rfl, (by show (0 : Int) < 50; decide), _, _, rfl, rfl, ?_⟩
    have z1 := Int.emod_nonneg (c5 / 7) (by decide : (90 : Int) ≠ 0)
    have z2 := Int.emod_lt_of_pos (c5 / 7) (by decide : (0 : Int) < 90)
    have z3 := Int.emod_nonneg wd (by decide : (50 : Int) ≠ 0)
    have z4 := Int.emod_lt_of_pos wd (by decide : (0 : Int) < 50)
    dsimp only
    have bn1 : -1 - c5 / 7 % 90 < 0 := by omega
    have bn2 : Sm 1300 (-1 - c5 / 7 % 90) := sml _ (by omega) (by omega)
    have bd1 : 0 < 1 + wd % 50 := by omega
    have bd2 : Sm 1300 (1 + wd % 50) := sml _ (by omega) (by omega)
    generalize -1 - c5 / 7 % 90 = bn at *
    generalize 1 + wd % 50 = bd at *
    refine fun x4 e4 nx4 nd4 ne4 => ⟨x4, e4, bn, bd, rfl, upd_same, bn2, bd2, fun z => absurd bd1 (by omega), fun _ H35 RB k35 => ⟨rfl, ?_⟩⟩
    have m35 := same_upd nx4 nd4 k35
    have neg : fr bn bd < 0 := by
      refine Rat.not_le.mp fun z => ?_
      have := (fr_nonneg bd1).mp z
      omega
    generalize fr bn bd = bq at RB neg
    have hD := m35 _ _ hD
    have hd := m35 _ _ hd
    have A1 := A1.same m35
    have A2 := A2.same m35
    have A3 := A3.same m35
    have RL := RL.same m35
    have RZ := RZ.same m35
    clear m35 hS34
    refine ⟨_, rfl, by decide, by decide, for_range (lo := 0) (n := 3) (fun i σ H' => Same H35 H' ∧ ∃ v15 v16 : Option V, σ = [some (.ref sa), some (.ref o1), some (.ref o2), some (.int n), some (.int wd), some (.ref bl), some (.ref pl), some (.ref inn), some (.ref t5), v9, some (.ref x1), some (.ref x2), some (.ref D), none, some (.ref x4), v15, v16]) ⟨Same.refl _, none, none, rfl⟩ ?_ ?_⟩
    · rintro i σ H36 hi ⟨m36, v15, v16, rfl⟩
      have hD36 := m36 _ _ hD
      have fit : ∀ k, k ≤ 5 → k ≤ sizeLine := fun k h => Nat.le_trans h (by decide)
      have key : ∃ (r1 r2 r3 : Addr) (z : Bq), cutV ([.ref a1, .ref a2, .ref a3] : List V) none (some (0 + (i : Int))) ++ [.ref x4] ++ cutV ([.ref a1, .ref a2, .ref a3] : List V) (some (0 + (i : Int) + 1)) none = [.ref r1, .ref r2, .ref r3] ∧ z.lim = x.lim ∧
          RV T.C_Ratio H35 r1 z.a ∧ RV T.C_Ratio H35 r2 z.b ∧ RV T.C_Ratio H35 r3 z.c ∧ ¬ Good0 z ∧ (cutV ([.ref a1, .ref a2, .ref a3] : List V) none (some (0 + (i : Int)))).length ≤ 3 ∧ (cutV ([.ref a1, .ref a2, .ref a3] : List V) (some (0 + (i : Int) + 1)) none).length ≤ 3 := by
        have : i = 0 ∨ i = 1 ∨ i = 2 := by omega
        rcases this with rfl | rfl | rfl
        · exact ⟨x4, a2, a3, ⟨bq, x.b, x.c, x.lim⟩, rfl, rfl, RB, A2, A3, nl (.inl neg), show (0 : Nat) ≤ 3 by decide, show (2 : Nat) ≤ 3 by decide⟩
        · exact ⟨a1, x4, a3, ⟨x.a, bq, x.c, x.lim⟩, rfl, rfl, A1, RB, A3, nl (.inr (.inl neg)), show (1 : Nat) ≤ 3 by decide, show (1 : Nat) ≤ 3 by decide⟩
        · exact ⟨a1, a2, x4, ⟨x.a, x.b, bq, x.lim⟩, rfl, rfl, A1, A2, RB, nl (.inr (.inr (.inl neg))), show (2 : Nat) ≤ 3 by decide, show (0 : Nat) ≤ 3 by decide⟩
      obtain ⟨r1, r2, r3, z, er, ezl, Z1, Z2, Z3, ng, L1, L2⟩ := key
      refine ⟨_, rfl, _, rfl, _, rfl, D, _, rfl, SqL.of hD36, fun s1 hs1 => ?_⟩
      have n1 := same_new hs1 (.lst (cutV ([.ref a1, .ref a2, .ref a3] : List V) none (some (0 + (i : Int)))))
      refine ⟨_, rfl, one1, fun s2 hs2 => ?_⟩
      have n2 := same_new hs2 (.lst [.ref x4])
      refine ⟨s1, s2, _, _, rfl, rfl, n2 _ _ upd_same, upd_same, (fit _ (by show _ + 1 ≤ 5; omega)), fun s3 hs3 => ?_⟩
      have n3 := same_new hs3 (.lst (cutV ([.ref a1, .ref a2, .ref a3] : List V) none (some (0 + (i : Int))) ++ [.ref x4]))
      refine ⟨_, rfl, _, rfl, _, _, rfl, rfl, _, rfl, D, _, rfl, SqL.of (n3 _ _ (n2 _ _ (n1 _ _ hD36))), fun s4 hs4 => ?_⟩
      have n4 := same_new hs4 (.lst (cutV ([.ref a1, .ref a2, .ref a3] : List V) (some (0 + (i : Int) + 1)) none))
      refine ⟨s3, s4, _, _, rfl, rfl, n4 _ _ upd_same, upd_same, (by rw [List.length_append]; exact Nat.le_trans (show _ + 1 + _ ≤ 7 by omega) (by decide)), fun s5 hs5 => ?_⟩
      rw [er]
      have n5 := same_new hs5 (.lst [.ref r1, .ref r2, .ref r3])
      have m := m36.trans (n1.trans (n2.trans (n3.trans (n4.trans n5))))
      refine ⟨_, rfl, s5, _, _, _, rfl, rfl, SqL.of upd_same, rfl, _, rfl, s5, _, _, _, rfl, rfl, SqL.of upd_same, rfl, _, rfl, s5, _, _, _, rfl, rfl, SqL.of upd_same, rfl, _, rfl, o1, _, _, _, rfl, rfl, SqT.of (m _ _ hd), rfl, r1, r2, r3, z, by rw [ezl]; rfl, Z1.same m, Z2.same m, Z3.same m, ng, fun H37 m37 => ⟨true, rfl, iteF ?_⟩⟩
      exact ⟨m.trans m37, _, _, rfl⟩
    rintro σ H36 ⟨m36, v15, v16, rfl⟩
    have hD := m36 _ _ hD
    have RL := RL.same m36
    have RZ := RZ.same m36
    have hDL := SqL.of (K := K) hD
    refine ⟨_, rfl, D, _, _, _, rfl, rfl, hDL, rfl, _, rfl, D, _, _, _, rfl, rfl, hDL, rfl, _, rfl, D, _, _, _, rfl, rfl, hDL, rfl, _, rfl, _, rfl, _, _, rfl, rfl, (by show (0 : Int) < 7; decide), _, _, rfl, rfl, a1, a2, a3, ⟨x.a, x.b, x.c, some (-1 - wd % 7)⟩, rfl, A1.same m36, A2.same m36, A3.same m36, nl (.inr (.inr (.inr ⟨_, rfl, ?_⟩))), fun H37 m37 => ⟨true, rfl, iteF ?_⟩⟩
    · have := Int.emod_nonneg wd (by decide : (7 : Int) ≠ 0)
      omega
    refine ⟨_, rfl, _, rfl, _, rfl, x2, x2, x1, ⟨0, 0, lo, none⟩, rfl, RZ.same m37, RZ.same m37, RL.same m37, nl (.inr (.inr (.inl low))), fun H38 m38 => ⟨true, rfl, iteT ?_⟩⟩
    have RZ := (RZ.same m37).same m38
    exact ⟨_, rfl, _, rfl, _, rfl, _, rfl, x2, x2, x2, ⟨0, 0, 0, some (-1)⟩, rfl, RZ, RZ, RZ, nl (.inr (.inr (.inr ⟨_, rfl, by decide⟩))), fun H39 m39 => q _⟩
end
/-! ### the program's top -/
theorem all_mk {l : PySem.W.OpenLaw} {w : World} {K : PySem.W.Frag} {h : Heap} {mg : Str → Option Value} {fa : Addr} (X : K.In h) (G : h.Ns mainGlobals mg) (hfa : mg "law" = some (.ref fa))
    {C_Ratio : Addr}
    {C_Bound : Addr}
    {od_Ratio_init an_Ratio_init : Option Addr} {sl_Ratio_init : Array (Option Value)} {oc_Ratio_init kV_Ratio_init dc_Ratio_init pm_Ratio_init cd_Ratio_init ct_Ratio_init : Value} {a_Ratio_init : Addr} {dT_Ratio_init : Addr} {dc2_Ratio_init : Value} {dd2_Ratio_init : Option Addr} {dn_Ratio_init : Nat} {dsl_Ratio_init : Array (Option Value)} {tk0_Ratio_init : Tok}
    {od_Ratio_add an_Ratio_add : Option Addr} {sl_Ratio_add : Array (Option Value)} {oc_Ratio_add kV_Ratio_add dc_Ratio_add pm_Ratio_add cd_Ratio_add ct_Ratio_add : Value} {a_Ratio_add : Addr}
    {od_Ratio_mul an_Ratio_mul : Option Addr} {sl_Ratio_mul : Array (Option Value)} {oc_Ratio_mul kV_Ratio_mul dc_Ratio_mul pm_Ratio_mul cd_Ratio_mul ct_Ratio_mul : Value} {a_Ratio_mul : Addr}
    {od_Ratio_eq an_Ratio_eq : Option Addr} {sl_Ratio_eq : Array (Option Value)} {oc_Ratio_eq kV_Ratio_eq dc_Ratio_eq pm_Ratio_eq cd_Ratio_eq ct_Ratio_eq : Value} {a_Ratio_eq : Addr}
    {od_Ratio_below an_Ratio_below : Option Addr} {sl_Ratio_below : Array (Option Value)} {oc_Ratio_below kV_Ratio_below dc_Ratio_below pm_Ratio_below cd_Ratio_below ct_Ratio_below : Value} {a_Ratio_below : Addr}
    {od_Bound_init an_Bound_init : Option Addr} {sl_Bound_init : Array (Option Value)} {oc_Bound_init kV_Bound_init dc_Bound_init pm_Bound_init cd_Bound_init ct_Bound_init : Value} {a_Bound_init : Addr} {dT_Bound_init : Addr} {dc2_Bound_init : Value} {dd2_Bound_init : Option Addr} {dn_Bound_init : Nat} {dsl_Bound_init : Array (Option Value)}
    {od_Bound_eq an_Bound_eq : Option Addr} {sl_Bound_eq : Array (Option Value)} {oc_Bound_eq kV_Bound_eq dc_Bound_eq pm_Bound_eq cd_Bound_eq ct_Bound_eq : Value} {a_Bound_eq : Addr}
    {od_Bound_at an_Bound_at : Option Addr} {sl_Bound_at : Array (Option Value)} {oc_Bound_at kV_Bound_at dc_Bound_at pm_Bound_at cd_Bound_at ct_Bound_at : Value} {a_Bound_at : Addr}
    {od_Bound_plus an_Bound_plus : Option Addr} {sl_Bound_plus : Array (Option Value)} {oc_Bound_plus kV_Bound_plus dc_Bound_plus pm_Bound_plus cd_Bound_plus ct_Bound_plus : Value} {a_Bound_plus : Addr}
    {od_Bound_within an_Bound_within : Option Addr} {sl_Bound_within : Array (Option Value)} {oc_Bound_within kV_Bound_within dc_Bound_within pm_Bound_within cd_Bound_within ct_Bound_within : Value} {a_Bound_within : Addr}
    {od_pairs an_pairs : Option Addr} {sl_pairs : Array (Option Value)} {oc_pairs kV_pairs dc_pairs pm_pairs cd_pairs ct_pairs : Value} {a_pairs : Addr}
    {od_smaller_limit an_smaller_limit : Option Addr} {sl_smaller_limit : Array (Option Value)} {oc_smaller_limit kV_smaller_limit dc_smaller_limit pm_smaller_limit cd_smaller_limit ct_smaller_limit : Value} {a_smaller_limit : Addr}
    {od_nothing an_nothing : Option Addr} {sl_nothing : Array (Option Value)} {oc_nothing kV_nothing dc_nothing pm_nothing cd_nothing ct_nothing : Value} {a_nothing : Addr}
    {od_law_cell an_law_cell : Option Addr} {sl_law_cell : Array (Option Value)} {oc_law_cell kV_law_cell dc_law_cell pm_law_cell cd_law_cell ct_law_cell : Value} {a_law_cell : Addr}
    {od_law_row an_law_row : Option Addr} {sl_law_row : Array (Option Value)} {oc_law_row kV_law_row dc_law_row pm_law_row cd_law_row ct_law_row : Value} {a_law_row : Addr}
    {od_law_less an_law_less : Option Addr} {sl_law_less : Array (Option Value)} {oc_law_less kV_law_less dc_law_less pm_law_less cd_law_less ct_law_less : Value} {a_law_less : Addr}
    {od_law_plus an_law_plus : Option Addr} {sl_law_plus : Array (Option Value)} {oc_law_plus kV_law_plus dc_law_plus pm_law_plus cd_law_plus ct_law_plus : Value} {a_law_plus : Addr}
    {od_law_times an_law_times : Option Addr} {sl_law_times : Array (Option Value)} {oc_law_times kV_law_times dc_law_times pm_law_times cd_law_times ct_law_times : Value} {a_law_times : Addr}
    {od_law_drawn an_law_drawn : Option Addr} {sl_law_drawn : Array (Option Value)} {oc_law_drawn kV_law_drawn dc_law_drawn pm_law_drawn cd_law_drawn ct_law_drawn : Value} {a_law_drawn : Addr}
    {od_law_made an_law_made : Option Addr} {sl_law_made : Array (Option Value)} {oc_law_made kV_law_made dc_law_made pm_law_made cd_law_made ct_law_made : Value} {a_law_made : Addr}
    {od_law_at an_law_at : Option Addr} {sl_law_at : Array (Option Value)} {oc_law_at kV_law_at dc_law_at pm_law_at cd_law_at ct_law_at : Value} {a_law_at : Addr}
    {od_law_plus_of an_law_plus_of : Option Addr} {sl_law_plus_of : Array (Option Value)} {oc_law_plus_of kV_law_plus_of dc_law_plus_of pm_law_plus_of cd_law_plus_of ct_law_plus_of : Value} {a_law_plus_of : Addr}
    {od_law_within an_law_within : Option Addr} {sl_law_within : Array (Option Value)} {oc_law_within kV_law_within dc_law_within pm_law_within cd_law_within ct_law_within : Value} {a_law_within : Addr}
    {od_law_is an_law_is : Option Addr} {sl_law_is : Array (Option Value)} {oc_law_is kV_law_is dc_law_is pm_law_is cd_law_is ct_law_is : Value} {a_law_is : Addr}
    {od_law_refused an_law_refused : Option Addr} {sl_law_refused : Array (Option Value)} {oc_law_refused kV_law_refused dc_law_refused pm_law_refused cd_law_refused ct_law_refused : Value} {a_law_refused : Addr}
    {od_law_told an_law_told : Option Addr} {sl_law_told : Array (Option Value)} {oc_law_told kV_law_told dc_law_told pm_law_told cd_law_told ct_law_told : Value} {a_law_told : Addr}
    {od_law an_law : Option Addr} {sl_law : Array (Option Value)} {oc_law kV_law dc_law pm_law cd_law ct_law : Value} {a_law : Addr}
    {C_BadBound : Addr}
    {C_PlayError : Addr}
    {C_BadStep : Addr}
    (o_n : PySem.W.specialIn K (.builtin "object.__class__") "__get__" = some (some (.builtin "getset_descriptor.__get__")))
    (o_t : PySem.W.takesIn K (.builtin "object.__class__") = some true)
    (hC_Ratio : PySem.W.nsIn K mainGlobals "Ratio" = some (some (.ref C_Ratio)))
    (pg_Ratio : PySem.W.plainGet K C_Ratio Str.empty = true)
    (hd_Ratio : PySem.W.hasDictIn K C_Ratio = true)
    (po_Ratio : PySem.W.plainOver K C_Ratio = true)
    (sa_Ratio : PySem.W.findIn K (.ref C_Ratio) "__setattr__" = some (some (.builtin "object.__setattr__")))
    (mk_Ratio : PySem.W.makesIn K C_Ratio = true)
    (kc_Ratio : PySem.W.keepIn K (.ref C_Ratio) = true)
    (sf_Ratio : PySem.W.selfFirst K C_Ratio = true)
    (na_Ratio_num : PySem.W.findIn K (.ref C_Ratio) "num" = some none)
    (na_Ratio_den : PySem.W.findIn K (.ref C_Ratio) "den" = some none)
    (ia_Ratio : PySem.W.findIn K (.ref C_Ratio) "__class__" = some (some (.builtin "object.__class__")))
    (im_Ratio : PySem.W.mroIn K C_Ratio (.type "object") = some true)
    (ik_Ratio : PySem.W.kitOne K (.ref C_Ratio) (.ref C_Ratio) = some true)
    (hC_Bound : PySem.W.nsIn K mainGlobals "Bound" = some (some (.ref C_Bound)))
    (pg_Bound : PySem.W.plainGet K C_Bound Str.empty = true)
    (hd_Bound : PySem.W.hasDictIn K C_Bound = true)
    (po_Bound : PySem.W.plainOver K C_Bound = true)
    (sa_Bound : PySem.W.findIn K (.ref C_Bound) "__setattr__" = some (some (.builtin "object.__setattr__")))
    (mk_Bound : PySem.W.makesIn K C_Bound = true)
    (kc_Bound : PySem.W.keepIn K (.ref C_Bound) = true)
    (sf_Bound : PySem.W.selfFirst K C_Bound = true)
    (na_Bound_flat : PySem.W.findIn K (.ref C_Bound) "flat" = some none)
    (na_Bound_first : PySem.W.findIn K (.ref C_Bound) "first" = some none)
    (na_Bound_more : PySem.W.findIn K (.ref C_Bound) "more" = some none)
    (na_Bound_limit : PySem.W.findIn K (.ref C_Bound) "limit" = some none)
    (ia_Bound : PySem.W.findIn K (.ref C_Bound) "__class__" = some (some (.builtin "object.__class__")))
    (im_Bound : PySem.W.mroIn K C_Bound (.type "object") = some true)
    (ik_Bound : PySem.W.kitOne K (.ref C_Bound) (.ref C_Bound) = some true)
    (h_Ratio_init : PySem.W.findIn K (.ref C_Ratio) "__init__" = some (some (.ref a_Ratio_init)))
    (i_Ratio_init : PySem.W.isFn K (.ref a_Ratio_init) = true)
    (l_Ratio_init : K.lookup a_Ratio_init = some ⟨oc_Ratio_init, od_Ratio_init, .func (PySem.W.fnOf "__init__" "Ratio.__init__" (defArgs s_Ratio_init) (defBody s_Ratio_init) (defScope s_Ratio_init) (.ref dT_Ratio_init) kV_Ratio_init dc_Ratio_init pm_Ratio_init an_Ratio_init cd_Ratio_init ct_Ratio_init), sl_Ratio_init⟩)
    (dl_Ratio_init : K.lookup dT_Ratio_init = some ⟨dc2_Ratio_init, dd2_Ratio_init, .seq #[.int 1 tk0_Ratio_init] dn_Ratio_init, dsl_Ratio_init⟩)
    (c_Ratio_init : PySem.W.codeIn K cd_Ratio_init "Ratio.__init__" = true)
    (k_Ratio_init : PySem.W.keepIn K (.ref a_Ratio_init) = true)
    (h_Ratio_add : PySem.W.findIn K (.ref C_Ratio) "__add__" = some (some (.ref a_Ratio_add)))
    (i_Ratio_add : PySem.W.isFn K (.ref a_Ratio_add) = true)
    (l_Ratio_add : K.lookup a_Ratio_add = some ⟨oc_Ratio_add, od_Ratio_add, .func (PySem.W.fnOf "__add__" "Ratio.__add__" (defArgs s_Ratio_add) (defBody s_Ratio_add) (defScope s_Ratio_add) .none kV_Ratio_add dc_Ratio_add pm_Ratio_add an_Ratio_add cd_Ratio_add ct_Ratio_add), sl_Ratio_add⟩)
    (c_Ratio_add : PySem.W.codeIn K cd_Ratio_add "Ratio.__add__" = true)
    (k_Ratio_add : PySem.W.keepIn K (.ref a_Ratio_add) = true)
    (h_Ratio_mul : PySem.W.findIn K (.ref C_Ratio) "__mul__" = some (some (.ref a_Ratio_mul)))
    (i_Ratio_mul : PySem.W.isFn K (.ref a_Ratio_mul) = true)
    (l_Ratio_mul : K.lookup a_Ratio_mul = some ⟨oc_Ratio_mul, od_Ratio_mul, .func (PySem.W.fnOf "__mul__" "Ratio.__mul__" (defArgs s_Ratio_mul) (defBody s_Ratio_mul) (defScope s_Ratio_mul) .none kV_Ratio_mul dc_Ratio_mul pm_Ratio_mul an_Ratio_mul cd_Ratio_mul ct_Ratio_mul), sl_Ratio_mul⟩)
    (c_Ratio_mul : PySem.W.codeIn K cd_Ratio_mul "Ratio.__mul__" = true)
    (k_Ratio_mul : PySem.W.keepIn K (.ref a_Ratio_mul) = true)
    (h_Ratio_eq : PySem.W.findIn K (.ref C_Ratio) "__eq__" = some (some (.ref a_Ratio_eq)))
    (i_Ratio_eq : PySem.W.isFn K (.ref a_Ratio_eq) = true)
    (l_Ratio_eq : K.lookup a_Ratio_eq = some ⟨oc_Ratio_eq, od_Ratio_eq, .func (PySem.W.fnOf "__eq__" "Ratio.__eq__" (defArgs s_Ratio_eq) (defBody s_Ratio_eq) (defScope s_Ratio_eq) .none kV_Ratio_eq dc_Ratio_eq pm_Ratio_eq an_Ratio_eq cd_Ratio_eq ct_Ratio_eq), sl_Ratio_eq⟩)
    (c_Ratio_eq : PySem.W.codeIn K cd_Ratio_eq "Ratio.__eq__" = true)
    (k_Ratio_eq : PySem.W.keepIn K (.ref a_Ratio_eq) = true)
    (h_Ratio_below : PySem.W.findIn K (.ref C_Ratio) "below" = some (some (.ref a_Ratio_below)))
    (i_Ratio_below : PySem.W.isFn K (.ref a_Ratio_below) = true)
    (l_Ratio_below : K.lookup a_Ratio_below = some ⟨oc_Ratio_below, od_Ratio_below, .func (PySem.W.fnOf "below" "Ratio.below" (defArgs s_Ratio_below) (defBody s_Ratio_below) (defScope s_Ratio_below) .none kV_Ratio_below dc_Ratio_below pm_Ratio_below an_Ratio_below cd_Ratio_below ct_Ratio_below), sl_Ratio_below⟩)
    (c_Ratio_below : PySem.W.codeIn K cd_Ratio_below "Ratio.below" = true)
    (k_Ratio_below : PySem.W.keepIn K (.ref a_Ratio_below) = true)
    (h_Bound_init : PySem.W.findIn K (.ref C_Bound) "__init__" = some (some (.ref a_Bound_init)))
    (i_Bound_init : PySem.W.isFn K (.ref a_Bound_init) = true)
    (l_Bound_init : K.lookup a_Bound_init = some ⟨oc_Bound_init, od_Bound_init, .func (PySem.W.fnOf "__init__" "Bound.__init__" (defArgs s_Bound_init) (defBody s_Bound_init) (defScope s_Bound_init) (.ref dT_Bound_init) kV_Bound_init dc_Bound_init pm_Bound_init an_Bound_init cd_Bound_init ct_Bound_init), sl_Bound_init⟩)
    (dl_Bound_init : K.lookup dT_Bound_init = some ⟨dc2_Bound_init, dd2_Bound_init, .seq #[.none] dn_Bound_init, dsl_Bound_init⟩)
    (c_Bound_init : PySem.W.codeIn K cd_Bound_init "Bound.__init__" = true)
    (k_Bound_init : PySem.W.keepIn K (.ref a_Bound_init) = true)
    (h_Bound_eq : PySem.W.findIn K (.ref C_Bound) "__eq__" = some (some (.ref a_Bound_eq)))
    (i_Bound_eq : PySem.W.isFn K (.ref a_Bound_eq) = true)
    (l_Bound_eq : K.lookup a_Bound_eq = some ⟨oc_Bound_eq, od_Bound_eq, .func (PySem.W.fnOf "__eq__" "Bound.__eq__" (defArgs s_Bound_eq) (defBody s_Bound_eq) (defScope s_Bound_eq) .none kV_Bound_eq dc_Bound_eq pm_Bound_eq an_Bound_eq cd_Bound_eq ct_Bound_eq), sl_Bound_eq⟩)
    (c_Bound_eq : PySem.W.codeIn K cd_Bound_eq "Bound.__eq__" = true)
    (k_Bound_eq : PySem.W.keepIn K (.ref a_Bound_eq) = true)
    (h_Bound_at : PySem.W.findIn K (.ref C_Bound) "at" = some (some (.ref a_Bound_at)))
    (i_Bound_at : PySem.W.isFn K (.ref a_Bound_at) = true)
    (l_Bound_at : K.lookup a_Bound_at = some ⟨oc_Bound_at, od_Bound_at, .func (PySem.W.fnOf "at" "Bound.at" (defArgs s_Bound_at) (defBody s_Bound_at) (defScope s_Bound_at) .none kV_Bound_at dc_Bound_at pm_Bound_at an_Bound_at cd_Bound_at ct_Bound_at), sl_Bound_at⟩)
    (c_Bound_at : PySem.W.codeIn K cd_Bound_at "Bound.at" = true)
    (k_Bound_at : PySem.W.keepIn K (.ref a_Bound_at) = true)
    (h_Bound_plus : PySem.W.findIn K (.ref C_Bound) "plus" = some (some (.ref a_Bound_plus)))
    (i_Bound_plus : PySem.W.isFn K (.ref a_Bound_plus) = true)
    (l_Bound_plus : K.lookup a_Bound_plus = some ⟨oc_Bound_plus, od_Bound_plus, .func (PySem.W.fnOf "plus" "Bound.plus" (defArgs s_Bound_plus) (defBody s_Bound_plus) (defScope s_Bound_plus) .none kV_Bound_plus dc_Bound_plus pm_Bound_plus an_Bound_plus cd_Bound_plus ct_Bound_plus), sl_Bound_plus⟩)
    (c_Bound_plus : PySem.W.codeIn K cd_Bound_plus "Bound.plus" = true)
    (k_Bound_plus : PySem.W.keepIn K (.ref a_Bound_plus) = true)
    (h_Bound_within : PySem.W.findIn K (.ref C_Bound) "within" = some (some (.ref a_Bound_within)))
    (i_Bound_within : PySem.W.isFn K (.ref a_Bound_within) = true)
    (l_Bound_within : K.lookup a_Bound_within = some ⟨oc_Bound_within, od_Bound_within, .func (PySem.W.fnOf "within" "Bound.within" (defArgs s_Bound_within) (defBody s_Bound_within) (defScope s_Bound_within) .none kV_Bound_within dc_Bound_within pm_Bound_within an_Bound_within cd_Bound_within ct_Bound_within), sl_Bound_within⟩)
    (c_Bound_within : PySem.W.codeIn K cd_Bound_within "Bound.within" = true)
    (k_Bound_within : PySem.W.keepIn K (.ref a_Bound_within) = true)
    (h_pairs : PySem.W.nsIn K mainGlobals "pairs" = some (some (.ref a_pairs)))
    (l_pairs : K.lookup a_pairs = some ⟨oc_pairs, od_pairs, .func (PySem.W.fnOf "pairs" "pairs" (defArgs s_pairs) (defBody s_pairs) (defScope s_pairs) .none kV_pairs dc_pairs pm_pairs an_pairs cd_pairs ct_pairs), sl_pairs⟩)
    (c_pairs : PySem.W.codeIn K cd_pairs "pairs" = true)
    (k_pairs : PySem.W.keepIn K (.ref a_pairs) = true)
    (h_smaller_limit : PySem.W.nsIn K mainGlobals "smaller_limit" = some (some (.ref a_smaller_limit)))
    (l_smaller_limit : K.lookup a_smaller_limit = some ⟨oc_smaller_limit, od_smaller_limit, .func (PySem.W.fnOf "smaller_limit" "smaller_limit" (defArgs s_smaller_limit) (defBody s_smaller_limit) (defScope s_smaller_limit) .none kV_smaller_limit dc_smaller_limit pm_smaller_limit an_smaller_limit cd_smaller_limit ct_smaller_limit), sl_smaller_limit⟩)
    (c_smaller_limit : PySem.W.codeIn K cd_smaller_limit "smaller_limit" = true)
    (k_smaller_limit : PySem.W.keepIn K (.ref a_smaller_limit) = true)
    (h_nothing : PySem.W.nsIn K mainGlobals "nothing" = some (some (.ref a_nothing)))
    (l_nothing : K.lookup a_nothing = some ⟨oc_nothing, od_nothing, .func (PySem.W.fnOf "nothing" "nothing" (defArgs s_nothing) (defBody s_nothing) (defScope s_nothing) .none kV_nothing dc_nothing pm_nothing an_nothing cd_nothing ct_nothing), sl_nothing⟩)
    (c_nothing : PySem.W.codeIn K cd_nothing "nothing" = true)
    (k_nothing : PySem.W.keepIn K (.ref a_nothing) = true)
    (h_law_cell : PySem.W.nsIn K mainGlobals "_law_cell" = some (some (.ref a_law_cell)))
    (l_law_cell : K.lookup a_law_cell = some ⟨oc_law_cell, od_law_cell, .func (PySem.W.fnOf "_law_cell" "_law_cell" (defArgs s_law_cell) (defBody s_law_cell) (defScope s_law_cell) .none kV_law_cell dc_law_cell pm_law_cell an_law_cell cd_law_cell ct_law_cell), sl_law_cell⟩)
    (c_law_cell : PySem.W.codeIn K cd_law_cell "_law_cell" = true)
    (k_law_cell : PySem.W.keepIn K (.ref a_law_cell) = true)
    (h_law_row : PySem.W.nsIn K mainGlobals "_law_row" = some (some (.ref a_law_row)))
    (l_law_row : K.lookup a_law_row = some ⟨oc_law_row, od_law_row, .func (PySem.W.fnOf "_law_row" "_law_row" (defArgs s_law_row) (defBody s_law_row) (defScope s_law_row) .none kV_law_row dc_law_row pm_law_row an_law_row cd_law_row ct_law_row), sl_law_row⟩)
    (c_law_row : PySem.W.codeIn K cd_law_row "_law_row" = true)
    (k_law_row : PySem.W.keepIn K (.ref a_law_row) = true)
    (h_law_less : PySem.W.nsIn K mainGlobals "_law_less" = some (some (.ref a_law_less)))
    (l_law_less : K.lookup a_law_less = some ⟨oc_law_less, od_law_less, .func (PySem.W.fnOf "_law_less" "_law_less" (defArgs s_law_less) (defBody s_law_less) (defScope s_law_less) .none kV_law_less dc_law_less pm_law_less an_law_less cd_law_less ct_law_less), sl_law_less⟩)
    (c_law_less : PySem.W.codeIn K cd_law_less "_law_less" = true)
    (k_law_less : PySem.W.keepIn K (.ref a_law_less) = true)
    (h_law_plus : PySem.W.nsIn K mainGlobals "_law_plus" = some (some (.ref a_law_plus)))
    (l_law_plus : K.lookup a_law_plus = some ⟨oc_law_plus, od_law_plus, .func (PySem.W.fnOf "_law_plus" "_law_plus" (defArgs s_law_plus) (defBody s_law_plus) (defScope s_law_plus) .none kV_law_plus dc_law_plus pm_law_plus an_law_plus cd_law_plus ct_law_plus), sl_law_plus⟩)
    (c_law_plus : PySem.W.codeIn K cd_law_plus "_law_plus" = true)
    (k_law_plus : PySem.W.keepIn K (.ref a_law_plus) = true)
    (h_law_times : PySem.W.nsIn K mainGlobals "_law_times" = some (some (.ref a_law_times)))
    (l_law_times : K.lookup a_law_times = some ⟨oc_law_times, od_law_times, .func (PySem.W.fnOf "_law_times" "_law_times" (defArgs s_law_times) (defBody s_law_times) (defScope s_law_times) .none kV_law_times dc_law_times pm_law_times an_law_times cd_law_times ct_law_times), sl_law_times⟩)
    (c_law_times : PySem.W.codeIn K cd_law_times "_law_times" = true)
    (k_law_times : PySem.W.keepIn K (.ref a_law_times) = true)
    (h_law_drawn : PySem.W.nsIn K mainGlobals "_law_drawn" = some (some (.ref a_law_drawn)))
    (l_law_drawn : K.lookup a_law_drawn = some ⟨oc_law_drawn, od_law_drawn, .func (PySem.W.fnOf "_law_drawn" "_law_drawn" (defArgs s_law_drawn) (defBody s_law_drawn) (defScope s_law_drawn) .none kV_law_drawn dc_law_drawn pm_law_drawn an_law_drawn cd_law_drawn ct_law_drawn), sl_law_drawn⟩)
    (c_law_drawn : PySem.W.codeIn K cd_law_drawn "_law_drawn" = true)
    (k_law_drawn : PySem.W.keepIn K (.ref a_law_drawn) = true)
    (h_law_made : PySem.W.nsIn K mainGlobals "_law_made" = some (some (.ref a_law_made)))
    (l_law_made : K.lookup a_law_made = some ⟨oc_law_made, od_law_made, .func (PySem.W.fnOf "_law_made" "_law_made" (defArgs s_law_made) (defBody s_law_made) (defScope s_law_made) .none kV_law_made dc_law_made pm_law_made an_law_made cd_law_made ct_law_made), sl_law_made⟩)
    (c_law_made : PySem.W.codeIn K cd_law_made "_law_made" = true)
    (k_law_made : PySem.W.keepIn K (.ref a_law_made) = true)
    (h_law_at : PySem.W.nsIn K mainGlobals "_law_at" = some (some (.ref a_law_at)))
    (l_law_at : K.lookup a_law_at = some ⟨oc_law_at, od_law_at, .func (PySem.W.fnOf "_law_at" "_law_at" (defArgs s_law_at) (defBody s_law_at) (defScope s_law_at) .none kV_law_at dc_law_at pm_law_at an_law_at cd_law_at ct_law_at), sl_law_at⟩)
    (c_law_at : PySem.W.codeIn K cd_law_at "_law_at" = true)
    (k_law_at : PySem.W.keepIn K (.ref a_law_at) = true)
    (h_law_plus_of : PySem.W.nsIn K mainGlobals "_law_plus_of" = some (some (.ref a_law_plus_of)))
    (l_law_plus_of : K.lookup a_law_plus_of = some ⟨oc_law_plus_of, od_law_plus_of, .func (PySem.W.fnOf "_law_plus_of" "_law_plus_of" (defArgs s_law_plus_of) (defBody s_law_plus_of) (defScope s_law_plus_of) .none kV_law_plus_of dc_law_plus_of pm_law_plus_of an_law_plus_of cd_law_plus_of ct_law_plus_of), sl_law_plus_of⟩)
    (c_law_plus_of : PySem.W.codeIn K cd_law_plus_of "_law_plus_of" = true)
    (k_law_plus_of : PySem.W.keepIn K (.ref a_law_plus_of) = true)
    (h_law_within : PySem.W.nsIn K mainGlobals "_law_within" = some (some (.ref a_law_within)))
    (l_law_within : K.lookup a_law_within = some ⟨oc_law_within, od_law_within, .func (PySem.W.fnOf "_law_within" "_law_within" (defArgs s_law_within) (defBody s_law_within) (defScope s_law_within) .none kV_law_within dc_law_within pm_law_within an_law_within cd_law_within ct_law_within), sl_law_within⟩)
    (c_law_within : PySem.W.codeIn K cd_law_within "_law_within" = true)
    (k_law_within : PySem.W.keepIn K (.ref a_law_within) = true)
    (h_law_is : PySem.W.nsIn K mainGlobals "_law_is" = some (some (.ref a_law_is)))
    (l_law_is : K.lookup a_law_is = some ⟨oc_law_is, od_law_is, .func (PySem.W.fnOf "_law_is" "_law_is" (defArgs s_law_is) (defBody s_law_is) (defScope s_law_is) .none kV_law_is dc_law_is pm_law_is an_law_is cd_law_is ct_law_is), sl_law_is⟩)
    (c_law_is : PySem.W.codeIn K cd_law_is "_law_is" = true)
    (k_law_is : PySem.W.keepIn K (.ref a_law_is) = true)
    (h_law_refused : PySem.W.nsIn K mainGlobals "_law_refused" = some (some (.ref a_law_refused)))
    (l_law_refused : K.lookup a_law_refused = some ⟨oc_law_refused, od_law_refused, .func (PySem.W.fnOf "_law_refused" "_law_refused" (defArgs s_law_refused) (defBody s_law_refused) (defScope s_law_refused) .none kV_law_refused dc_law_refused pm_law_refused an_law_refused cd_law_refused ct_law_refused), sl_law_refused⟩)
    (c_law_refused : PySem.W.codeIn K cd_law_refused "_law_refused" = true)
    (k_law_refused : PySem.W.keepIn K (.ref a_law_refused) = true)
    (h_law_told : PySem.W.nsIn K mainGlobals "_law_told" = some (some (.ref a_law_told)))
    (l_law_told : K.lookup a_law_told = some ⟨oc_law_told, od_law_told, .func (PySem.W.fnOf "_law_told" "_law_told" (defArgs s_law_told) (defBody s_law_told) (defScope s_law_told) .none kV_law_told dc_law_told pm_law_told an_law_told cd_law_told ct_law_told), sl_law_told⟩)
    (c_law_told : PySem.W.codeIn K cd_law_told "_law_told" = true)
    (k_law_told : PySem.W.keepIn K (.ref a_law_told) = true)
    (h_law : PySem.W.nsIn K mainGlobals "law" = some (some (.ref a_law)))
    (l_law : K.lookup a_law = some ⟨oc_law, od_law, .func (PySem.W.fnOf "law" "law" (defArgs s_law) (defBody s_law) (defScope s_law) .none kV_law dc_law pm_law an_law cd_law ct_law), sl_law⟩)
    (c_law : PySem.W.codeIn K cd_law "law" = true)
    (k_law : PySem.W.keepIn K (.ref a_law) = true)
    (hC_BadBound : PySem.W.nsIn K mainGlobals "BadBound" = some (some (.ref C_BadBound)))
    (kc_BadBound : PySem.W.keepIn K (.ref C_BadBound) = true)
    (xb_BadBound : PySem.W.subIn K (.ref C_BadBound) (.type "BaseException") = some true)
    (xt_BadBound : PySem.W.typeIn K (.ref C_BadBound) = some (.type "type"))
    (xd_BadBound : PySem.W.hasDictIn K C_BadBound = true)
    (x_BadBound : PySem.W.excIn K C_BadBound [.type "ValueError", .type "Exception", .type "BaseException", .type "object"] "ValueError.__new__" = true)
    (hC_PlayError : PySem.W.nsIn K mainGlobals "PlayError" = some (some (.ref C_PlayError)))
    (kc_PlayError : PySem.W.keepIn K (.ref C_PlayError) = true)
    (xb_PlayError : PySem.W.subIn K (.ref C_PlayError) (.type "BaseException") = some true)
    (xt_PlayError : PySem.W.typeIn K (.ref C_PlayError) = some (.type "type"))
    (xd_PlayError : PySem.W.hasDictIn K C_PlayError = true)
    (hC_BadStep : PySem.W.nsIn K mainGlobals "BadStep" = some (some (.ref C_BadStep)))
    (kc_BadStep : PySem.W.keepIn K (.ref C_BadStep) = true)
    (xb_BadStep : PySem.W.subIn K (.ref C_BadStep) (.type "BaseException") = some true)
    (xt_BadStep : PySem.W.typeIn K (.ref C_BadStep) = some (.type "type"))
    (xd_BadStep : PySem.W.hasDictIn K C_BadStep = true)
    (eg_BadBound : PySem.W.findIn K (.ref C_BadBound) "__getattribute__" = some (some (.builtin "BaseException.__getattribute__")))
    (ek_BadBound : PySem.W.findIn K (.ref C_BadBound) "__getattr__" = some none)
    (ea_BadBound : PySem.W.findIn K (.ref C_BadBound) "__class__" = some (some (.builtin "object.__class__")))
    (em_BadBound : PySem.W.mroIn K C_BadBound (.type "object") = some true)
    (zn_len : PySem.W.nsIn K mainGlobals "len" = some none)
    (zn_range : PySem.W.nsIn K mainGlobals "range" = some none)
    (zn_isinstance : PySem.W.nsIn K mainGlobals "isinstance" = some none)
    (zn_abs : PySem.W.nsIn K mainGlobals "abs" = some none)
    (zn_int : PySem.W.nsIn K mainGlobals "int" = some none)
    (zn_list : PySem.W.nsIn K mainGlobals "list" = some none)
    (zn_min : PySem.W.nsIn K mainGlobals "min" = some none)
    (hg_gcd : PySem.W.nsIn K mainGlobals "gcd" = some (some (.builtin "math.gcd")))
    (sub_bp : PySem.W.subIn K (.ref C_BadBound) (.ref C_PlayError) = some true)
    (ki_b : PySem.W.kitOne K (.ref C_BadBound) (.ref C_BadBound) = some true)
    (ki_s : PySem.W.kitOne K (.ref C_BadBound) (.ref C_BadStep) = some false)
    (om_Bound : PySem.W.mroIn K C_Bound (.type "object") = some true)
    (ne_Bound : PySem.W.findIn K (.ref C_Bound) "__ne__" = some (some (.builtin "object.__ne__"))) :
    ∃ fd : FuncData, (∀ (s : Shared) (v : Value), BindsTo s fd ⟨[v], []⟩ [("script", v)]) ∧ ∀ base : Heap, K.In base → base.Ns mainGlobals mg → FnOk l.prog w K mg base CX0 30 fa fd ["script"] (spLaw K) := by
  have e := hfa.symm.trans (PySem.W.mg_of X G h_law)
  cases e
  have F_Ratio_init : FunD K "__init__" "Ratio.__init__" (defArgs s_Ratio_init) (defBody s_Ratio_init) (defScope s_Ratio_init) [.int 1] [] a_Ratio_init (PySem.W.fnOf "__init__" "Ratio.__init__" (defArgs s_Ratio_init) (defBody s_Ratio_init) (defScope s_Ratio_init) (.ref dT_Ratio_init) kV_Ratio_init dc_Ratio_init pm_Ratio_init an_Ratio_init cd_Ratio_init ct_Ratio_init) := ⟨⟨_, _, _, _, _, _, _, _, _, _, rfl, l_Ratio_init, c_Ratio_init, .inr ⟨List.cons_ne_nil _ _, _, _, _, _, rfl, dl_Ratio_init, rfl, (.cons ⟨_, rfl⟩ .nil)⟩, .inl rfl⟩, k_Ratio_init⟩
  obtain ⟨ds0_Ratio_init, dv0_Ratio_init, db0_Ratio_init⟩ := F_Ratio_init.binds1 (ps := ["self", "num", "den"]) 2 0 (List.cons_ne_nil _ _) rfl fun _ _ _ _ _ _ _ us its hl hi => match us, its, hl, hi with | [_, _], [_], _, _ => ⟨_, rfl, rfl⟩
  obtain ⟨ds1_Ratio_init, dv1_Ratio_init, db1_Ratio_init⟩ := F_Ratio_init.binds1 (ps := ["self", "num", "den"]) 3 1 (List.cons_ne_nil _ _) rfl fun _ _ _ _ _ _ _ us its hl hi => match us, its, hl, hi with | [_, _, _], [_], _, _ => ⟨_, rfl, rfl⟩
  have b_Ratio_init : L2.Binds K (PySem.W.fnOf "__init__" "Ratio.__init__" (defArgs s_Ratio_init) (defBody s_Ratio_init) (defScope s_Ratio_init) (.ref dT_Ratio_init) kV_Ratio_init dc_Ratio_init pm_Ratio_init an_Ratio_init cd_Ratio_init ct_Ratio_init) ["self", "num", "den"] [] := by cases dv1_Ratio_init; exact db1_Ratio_init
  have F_Ratio_add := fun_mk (st := s_Ratio_add) l_Ratio_add c_Ratio_add k_Ratio_add
  have b_Ratio_add := F_Ratio_add.binds (ps := ["self", "other"]) fun _ _ _ _ _ _ us hl => match us, hl with | [_, _], _ => rfl
  have F_Ratio_mul := fun_mk (st := s_Ratio_mul) l_Ratio_mul c_Ratio_mul k_Ratio_mul
  have b_Ratio_mul := F_Ratio_mul.binds (ps := ["self", "other"]) fun _ _ _ _ _ _ us hl => match us, hl with | [_, _], _ => rfl
  have F_Ratio_eq := fun_mk (st := s_Ratio_eq) l_Ratio_eq c_Ratio_eq k_Ratio_eq
  have b_Ratio_eq := F_Ratio_eq.binds (ps := ["self", "other"]) fun _ _ _ _ _ _ us hl => match us, hl with | [_, _], _ => rfl
  have F_Ratio_below := fun_mk (st := s_Ratio_below) l_Ratio_below c_Ratio_below k_Ratio_below
  have b_Ratio_below := F_Ratio_below.binds (ps := ["self", "other"]) fun _ _ _ _ _ _ us hl => match us, hl with | [_, _], _ => rfl
  have F_Bound_init : FunD K "__init__" "Bound.__init__" (defArgs s_Bound_init) (defBody s_Bound_init) (defScope s_Bound_init) [.non] [] a_Bound_init (PySem.W.fnOf "__init__" "Bound.__init__" (defArgs s_Bound_init) (defBody s_Bound_init) (defScope s_Bound_init) (.ref dT_Bound_init) kV_Bound_init dc_Bound_init pm_Bound_init an_Bound_init cd_Bound_init ct_Bound_init) := ⟨⟨_, _, _, _, _, _, _, _, _, _, rfl, l_Bound_init, c_Bound_init, .inr ⟨List.cons_ne_nil _ _, _, _, _, _, rfl, dl_Bound_init, rfl, (.cons rfl .nil)⟩, .inl rfl⟩, k_Bound_init⟩
  obtain ⟨ds0_Bound_init, dv0_Bound_init, db0_Bound_init⟩ := F_Bound_init.binds1 (ps := ["self", "flat", "first", "more", "limit"]) 4 0 (List.cons_ne_nil _ _) rfl fun _ _ _ _ _ _ _ us its hl hi => match us, its, hl, hi with | [_, _, _, _], [_], _, _ => ⟨_, rfl, rfl⟩
  obtain ⟨ds1_Bound_init, dv1_Bound_init, db1_Bound_init⟩ := F_Bound_init.binds1 (ps := ["self", "flat", "first", "more", "limit"]) 5 1 (List.cons_ne_nil _ _) rfl fun _ _ _ _ _ _ _ us its hl hi => match us, its, hl, hi with | [_, _, _, _, _], [_], _, _ => ⟨_, rfl, rfl⟩
  have b_Bound_init : L2.Binds K (PySem.W.fnOf "__init__" "Bound.__init__" (defArgs s_Bound_init) (defBody s_Bound_init) (defScope s_Bound_init) (.ref dT_Bound_init) kV_Bound_init dc_Bound_init pm_Bound_init an_Bound_init cd_Bound_init ct_Bound_init) ["self", "flat", "first", "more", "limit"] [] := by cases dv1_Bound_init; exact db1_Bound_init
  have F_Bound_eq := fun_mk (st := s_Bound_eq) l_Bound_eq c_Bound_eq k_Bound_eq
  have b_Bound_eq := F_Bound_eq.binds (ps := ["self", "other"]) fun _ _ _ _ _ _ us hl => match us, hl with | [_, _], _ => rfl
  have F_Bound_at := fun_mk (st := s_Bound_at) l_Bound_at c_Bound_at k_Bound_at
  have b_Bound_at := F_Bound_at.binds (ps := ["self", "calls"]) fun _ _ _ _ _ _ us hl => match us, hl with | [_, _], _ => rfl
  have F_Bound_plus := fun_mk (st := s_Bound_plus) l_Bound_plus c_Bound_plus k_Bound_plus
  have b_Bound_plus := F_Bound_plus.binds (ps := ["self", "other"]) fun _ _ _ _ _ _ us hl => match us, hl with | [_, _], _ => rfl
  have F_Bound_within := fun_mk (st := s_Bound_within) l_Bound_within c_Bound_within k_Bound_within
  have b_Bound_within := F_Bound_within.binds (ps := ["self", "asks"]) fun _ _ _ _ _ _ us hl => match us, hl with | [_, _], _ => rfl
  have F_pairs := fun_mk (st := s_pairs) l_pairs c_pairs k_pairs
  have b_pairs := F_pairs.binds (ps := ["many"]) fun _ _ _ _ _ _ us hl => match us, hl with | [_], _ => rfl
  have F_smaller_limit := fun_mk (st := s_smaller_limit) l_smaller_limit c_smaller_limit k_smaller_limit
  have b_smaller_limit := F_smaller_limit.binds (ps := ["limit", "other"]) fun _ _ _ _ _ _ us hl => match us, hl with | [_, _], _ => rfl
  have F_nothing := fun_mk (st := s_nothing) l_nothing c_nothing k_nothing
  have b_nothing := F_nothing.binds (ps := []) fun _ _ _ _ _ _ us hl => match us, hl with | [], _ => rfl
  have F_law_cell := fun_mk (st := s_law_cell) l_law_cell c_law_cell k_law_cell
  have b_law_cell := F_law_cell.binds (ps := ["script", "k"]) fun _ _ _ _ _ _ us hl => match us, hl with | [_, _], _ => rfl
  have F_law_row := fun_mk (st := s_law_row) l_law_row c_law_row k_law_row
  have b_law_row := F_law_row.binds (ps := ["cell", "count", "size"]) fun _ _ _ _ _ _ us hl => match us, hl with | [_, _, _], _ => rfl
  have F_law_less := fun_mk (st := s_law_less) l_law_less c_law_less k_law_less
  have b_law_less := F_law_less.binds (ps := ["num", "den"]) fun _ _ _ _ _ _ us hl => match us, hl with | [_, _], _ => rfl
  have F_law_plus := fun_mk (st := s_law_plus) l_law_plus c_law_plus k_law_plus
  have b_law_plus := F_law_plus.binds (ps := ["one", "other"]) fun _ _ _ _ _ _ us hl => match us, hl with | [_, _], _ => rfl
  have F_law_times := fun_mk (st := s_law_times) l_law_times c_law_times k_law_times
  have b_law_times := F_law_times.binds (ps := ["one", "other"]) fun _ _ _ _ _ _ us hl => match us, hl with | [_, _], _ => rfl
  have F_law_drawn := fun_mk (st := s_law_drawn) l_law_drawn c_law_drawn k_law_drawn
  have b_law_drawn := F_law_drawn.binds (ps := ["cell"]) fun _ _ _ _ _ _ us hl => match us, hl with | [_], _ => rfl
  have F_law_made := fun_mk (st := s_law_made) l_law_made c_law_made k_law_made
  have b_law_made := F_law_made.binds (ps := ["drawn"]) fun _ _ _ _ _ _ us hl => match us, hl with | [_], _ => rfl
  have F_law_at := fun_mk (st := s_law_at) l_law_at c_law_at k_law_at
  have b_law_at := F_law_at.binds (ps := ["drawn", "calls"]) fun _ _ _ _ _ _ us hl => match us, hl with | [_, _], _ => rfl
  have F_law_plus_of := fun_mk (st := s_law_plus_of) l_law_plus_of c_law_plus_of k_law_plus_of
  have b_law_plus_of := F_law_plus_of.binds (ps := ["one", "other"]) fun _ _ _ _ _ _ us hl => match us, hl with | [_, _], _ => rfl
  have F_law_within := fun_mk (st := s_law_within) l_law_within c_law_within k_law_within
  have b_law_within := F_law_within.binds (ps := ["drawn", "asks"]) fun _ _ _ _ _ _ us hl => match us, hl with | [_, _], _ => rfl
  have F_law_is := fun_mk (st := s_law_is) l_law_is c_law_is k_law_is
  have b_law_is := F_law_is.binds (ps := ["actual", "due", "wide"]) fun _ _ _ _ _ _ us hl => match us, hl with | [_, _, _], _ => rfl
  have F_law_refused := fun_mk (st := s_law_refused) l_law_refused c_law_refused k_law_refused
  have b_law_refused := F_law_refused.binds (ps := ["flat", "first", "more", "limit"]) fun _ _ _ _ _ _ us hl => match us, hl with | [_, _, _, _], _ => rfl
  have F_law_told := fun_mk (st := s_law_told) l_law_told c_law_told k_law_told
  have b_law_told := F_law_told.binds (ps := ["drawn"]) fun _ _ _ _ _ _ us hl => match us, hl with | [_], _ => rfl
  have F_law := fun_mk (st := s_law) l_law c_law k_law
  have b_law := F_law.binds (ps := ["script"]) fun _ _ _ _ _ _ us hl => match us, hl with | [_], _ => rfl
  refine ⟨PySem.W.fnOf "law" "law" (defArgs s_law) (defBody s_law) (defScope s_law) .none kV_law dc_law pm_law an_law cd_law ct_law, fun s v => .of_eq rfl, fun base _ _ => ?_⟩
  exact ok_law (mg := mg) (K := K) {
    a_Ratio_init := _
    fd_Ratio_init := _
    a_Ratio_add := _
    fd_Ratio_add := _
    a_Ratio_mul := _
    fd_Ratio_mul := _
    a_Ratio_eq := _
    fd_Ratio_eq := _
    a_Ratio_below := _
    fd_Ratio_below := _
    a_Bound_init := _
    fd_Bound_init := _
    a_Bound_eq := _
    fd_Bound_eq := _
    a_Bound_at := _
    fd_Bound_at := _
    a_Bound_plus := _
    fd_Bound_plus := _
    a_Bound_within := _
    fd_Bound_within := _
    a_pairs := _
    fd_pairs := _
    a_smaller_limit := _
    fd_smaller_limit := _
    a_nothing := _
    fd_nothing := _
    a_law_cell := _
    fd_law_cell := _
    a_law_row := _
    fd_law_row := _
    a_law_less := _
    fd_law_less := _
    a_law_plus := _
    fd_law_plus := _
    a_law_times := _
    fd_law_times := _
    a_law_drawn := _
    fd_law_drawn := _
    a_law_made := _
    fd_law_made := _
    a_law_at := _
    fd_law_at := _
    a_law_plus_of := _
    fd_law_plus_of := _
    a_law_within := _
    fd_law_within := _
    a_law_is := _
    fd_law_is := _
    a_law_refused := _
    fd_law_refused := _
    a_law_told := _
    fd_law_told := _
    a_law := _
    fd_law := _
    C_Ratio := _
    C_Bound := _
    C_BadBound := _
    C_PlayError := _
    C_BadStep := _
    o_n := o_n
    o_t := o_t
    g_Ratio := PySem.W.mg_of X G hC_Ratio
    cl_Ratio := ⟨pg_Ratio, hd_Ratio, po_Ratio, sa_Ratio⟩
    sf_Ratio := sf_Ratio
    na_Ratio_num := na_Ratio_num
    na_Ratio_den := na_Ratio_den
    ia_Ratio := ia_Ratio
    im_Ratio := im_Ratio
    ik_Ratio := ik_Ratio
    g_Bound := PySem.W.mg_of X G hC_Bound
    cl_Bound := ⟨pg_Bound, hd_Bound, po_Bound, sa_Bound⟩
    sf_Bound := sf_Bound
    na_Bound_flat := na_Bound_flat
    na_Bound_first := na_Bound_first
    na_Bound_more := na_Bound_more
    na_Bound_limit := na_Bound_limit
    ia_Bound := ia_Bound
    im_Bound := im_Bound
    ik_Bound := ik_Bound
    F_Ratio_init := F_Ratio_init
    ds0_Ratio_init := ds0_Ratio_init
    dv0_Ratio_init := dv0_Ratio_init
    db0_Ratio_init := db0_Ratio_init
    b_Ratio_init := b_Ratio_init
    k_Ratio_init := k_Ratio_init
    m_Ratio_init := ⟨h_Ratio_init, i_Ratio_init, k_Ratio_init⟩
    F_Ratio_add := F_Ratio_add
    b_Ratio_add := b_Ratio_add
    k_Ratio_add := k_Ratio_add
    m_Ratio_add := ⟨h_Ratio_add, i_Ratio_add, k_Ratio_add⟩
    F_Ratio_mul := F_Ratio_mul
    b_Ratio_mul := b_Ratio_mul
    k_Ratio_mul := k_Ratio_mul
    m_Ratio_mul := ⟨h_Ratio_mul, i_Ratio_mul, k_Ratio_mul⟩
    F_Ratio_eq := F_Ratio_eq
    b_Ratio_eq := b_Ratio_eq
    k_Ratio_eq := k_Ratio_eq
    m_Ratio_eq := ⟨h_Ratio_eq, i_Ratio_eq, k_Ratio_eq⟩
    F_Ratio_below := F_Ratio_below
    b_Ratio_below := b_Ratio_below
    k_Ratio_below := k_Ratio_below
    m_Ratio_below := ⟨h_Ratio_below, i_Ratio_below, k_Ratio_below⟩
    F_Bound_init := F_Bound_init
    ds0_Bound_init := ds0_Bound_init
    dv0_Bound_init := dv0_Bound_init
    db0_Bound_init := db0_Bound_init
    b_Bound_init := b_Bound_init
    k_Bound_init := k_Bound_init
    m_Bound_init := ⟨h_Bound_init, i_Bound_init, k_Bound_init⟩
    F_Bound_eq := F_Bound_eq
    b_Bound_eq := b_Bound_eq
    k_Bound_eq := k_Bound_eq
    m_Bound_eq := ⟨h_Bound_eq, i_Bound_eq, k_Bound_eq⟩
    F_Bound_at := F_Bound_at
    b_Bound_at := b_Bound_at
    k_Bound_at := k_Bound_at
    m_Bound_at := ⟨h_Bound_at, i_Bound_at, k_Bound_at⟩
    F_Bound_plus := F_Bound_plus
    b_Bound_plus := b_Bound_plus
    k_Bound_plus := k_Bound_plus
    m_Bound_plus := ⟨h_Bound_plus, i_Bound_plus, k_Bound_plus⟩
    F_Bound_within := F_Bound_within
    b_Bound_within := b_Bound_within
    k_Bound_within := k_Bound_within
    m_Bound_within := ⟨h_Bound_within, i_Bound_within, k_Bound_within⟩
    F_pairs := F_pairs
    b_pairs := b_pairs
    k_pairs := k_pairs
    g_pairs := PySem.W.mg_of X G h_pairs
    F_smaller_limit := F_smaller_limit
    b_smaller_limit := b_smaller_limit
    k_smaller_limit := k_smaller_limit
    g_smaller_limit := PySem.W.mg_of X G h_smaller_limit
    F_nothing := F_nothing
    b_nothing := b_nothing
    k_nothing := k_nothing
    g_nothing := PySem.W.mg_of X G h_nothing
    F_law_cell := F_law_cell
    b_law_cell := b_law_cell
    k_law_cell := k_law_cell
    g_law_cell := PySem.W.mg_of X G h_law_cell
    F_law_row := F_law_row
    b_law_row := b_law_row
    k_law_row := k_law_row
    g_law_row := PySem.W.mg_of X G h_law_row
    F_law_less := F_law_less
    b_law_less := b_law_less
    k_law_less := k_law_less
    g_law_less := PySem.W.mg_of X G h_law_less
    F_law_plus := F_law_plus
    b_law_plus := b_law_plus
    k_law_plus := k_law_plus
    g_law_plus := PySem.W.mg_of X G h_law_plus
    F_law_times := F_law_times
    b_law_times := b_law_times
    k_law_times := k_law_times
    g_law_times := PySem.W.mg_of X G h_law_times
    F_law_drawn := F_law_drawn
    b_law_drawn := b_law_drawn
    k_law_drawn := k_law_drawn
    g_law_drawn := PySem.W.mg_of X G h_law_drawn
    F_law_made := F_law_made
    b_law_made := b_law_made
    k_law_made := k_law_made
    g_law_made := PySem.W.mg_of X G h_law_made
    F_law_at := F_law_at
    b_law_at := b_law_at
    k_law_at := k_law_at
    g_law_at := PySem.W.mg_of X G h_law_at
    F_law_plus_of := F_law_plus_of
    b_law_plus_of := b_law_plus_of
    k_law_plus_of := k_law_plus_of
    g_law_plus_of := PySem.W.mg_of X G h_law_plus_of
    F_law_within := F_law_within
    b_law_within := b_law_within
    k_law_within := k_law_within
    g_law_within := PySem.W.mg_of X G h_law_within
    F_law_is := F_law_is
    b_law_is := b_law_is
    k_law_is := k_law_is
    g_law_is := PySem.W.mg_of X G h_law_is
    F_law_refused := F_law_refused
    b_law_refused := b_law_refused
    k_law_refused := k_law_refused
    g_law_refused := PySem.W.mg_of X G h_law_refused
    F_law_told := F_law_told
    b_law_told := b_law_told
    k_law_told := k_law_told
    g_law_told := PySem.W.mg_of X G h_law_told
    F_law := F_law
    b_law := b_law
    k_law := k_law
    g_law := PySem.W.mg_of X G h_law
    mk_Ratio := ⟨mk_Ratio, h_Ratio_init, i_Ratio_init, kc_Ratio⟩
    mk_Bound := ⟨mk_Bound, h_Bound_init, i_Bound_init, kc_Bound⟩
    g_BadBound := PySem.W.mg_of X G hC_BadBound
    kc_BadBound := kc_BadBound
    xb_BadBound := xb_BadBound
    xt_BadBound := xt_BadBound
    xd_BadBound := xd_BadBound
    x_BadBound := x_BadBound
    g_PlayError := PySem.W.mg_of X G hC_PlayError
    kc_PlayError := kc_PlayError
    xb_PlayError := xb_PlayError
    xt_PlayError := xt_PlayError
    xd_PlayError := xd_PlayError
    g_BadStep := PySem.W.mg_of X G hC_BadStep
    kc_BadStep := kc_BadStep
    xb_BadStep := xb_BadStep
    xt_BadStep := xt_BadStep
    xd_BadStep := xd_BadStep
    ec_BadBound := ⟨eg_BadBound, ek_BadBound, xb_BadBound, xd_BadBound, ea_BadBound, o_n, o_t, em_BadBound⟩
    z_len := PySem.W.mg_none_of X G zn_len
    z_range := PySem.W.mg_none_of X G zn_range
    z_isinstance := PySem.W.mg_none_of X G zn_isinstance
    z_abs := PySem.W.mg_none_of X G zn_abs
    z_int := PySem.W.mg_none_of X G zn_int
    z_list := PySem.W.mg_none_of X G zn_list
    z_min := PySem.W.mg_none_of X G zn_min
    g_gcd := PySem.W.mg_of X G hg_gcd
    sub_bp := sub_bp
    ki_b := ki_b
    ki_s := ki_s
    om_Bound := om_Bound
    ne_Bound := ne_Bound }
theorem walk {l : PySem.W.OpenLaw} {q : Program} {loose : List Str} {XP : (Str → Option Value) → Heap → Prop} {YP : World → Heap → Prop} {d : DefRec} {K : Params → PySem.W.Frag} (hn : l.most = some 63) (hdf : d.params.defaults = [])
    (hY : ∀ (w : World) (h : Heap), YP w h → (K w.params).In h)
    (F : ∀ (w : World) (mg : Str → Option Value) (fa : Addr) (h : Heap), (K w.params).In h → h.Ns mainGlobals mg → mg d.name = some (.ref fa) →
      ∃ fd : FuncData, (∀ (s : Shared) (u : Value), BindsTo s fd ⟨[u], []⟩ [("script", u)]) ∧ ∀ base : Heap, (K w.params).In base → base.Ns mainGlobals mg → FnOk l.prog w (K w.params) mg base CX0 30 fa fd ["script"] (spLaw (K w.params))) :
    PySem.W.WalkO q loose XP YP l.row.toRowW d [] (fun f vs => PySem.call f vs) :=
  L2.walk_of (n := 63) (k := 30) (x := "script") (CX := fun _ => CX0) (sp := fun w => spLaw (K w.params)) hn (by decide) hdf ⟨rfl, by decide, by decide⟩ hY F (fun _ _ a ns hl _ hS => ⟨a, ns, rfl, hS, hl, fun _ => rfl⟩) fun _ _ _ _ _ z => z
end Toy
set_option Elab.async false
open PySem PySem.W PyProof.Rows
set_option maxRecDepth 100000 in
set_option maxHeartbeats 0 in
theorem PySem.Challenge.cw_tellsnone_k30_bounds_holds : PySem.Challenge.rw_tellsnone_k30_bounds.Holds := by
  w_on; o_law; k_head; (case hw => w_witness2)
  k_fill
  refine Toy.walk (l := PySem.Challenge.rw_tellsnone_k30_bounds) rfl rfl (fun w h Y => PySem.W.kIn_of Y) ?F
  case F =>
    intro w mg fa h KX G hmg
    refine' Toy.all_mk KX G hmg ?o_n ?o_t ?hC_Ratio ?pg_Ratio ?hd_Ratio ?po_Ratio ?sa_Ratio ?mk_Ratio ?kc_Ratio ?sf_Ratio ?na_Ratio_num ?na_Ratio_den ?ia_Ratio ?im_Ratio ?ik_Ratio ?hC_Bound ?pg_Bound ?hd_Bound ?po_Bound ?sa_Bound ?mk_Bound ?kc_Bound ?sf_Bound ?na_Bound_flat ?na_Bound_first ?na_Bound_more ?na_Bound_limit ?ia_Bound ?im_Bound ?ik_Bound ?h_Ratio_init ?i_Ratio_init ?l_Ratio_init ?dl_Ratio_init ?c_Ratio_init ?k_Ratio_init ?h_Ratio_add ?i_Ratio_add ?l_Ratio_add ?c_Ratio_add ?k_Ratio_add ?h_Ratio_mul ?i_Ratio_mul ?l_Ratio_mul ?c_Ratio_mul ?k_Ratio_mul ?h_Ratio_eq ?i_Ratio_eq ?l_Ratio_eq ?c_Ratio_eq ?k_Ratio_eq ?h_Ratio_below ?i_Ratio_below ?l_Ratio_below ?c_Ratio_below ?k_Ratio_below ?h_Bound_init ?i_Bound_init ?l_Bound_init ?dl_Bound_init ?c_Bound_init ?k_Bound_init ?h_Bound_eq ?i_Bound_eq ?l_Bound_eq ?c_Bound_eq ?k_Bound_eq ?h_Bound_at ?i_Bound_at ?l_Bound_at ?c_Bound_at ?k_Bound_at ?h_Bound_plus ?i_Bound_plus ?l_Bound_plus ?c_Bound_plus ?k_Bound_plus ?h_Bound_within ?i_Bound_within ?l_Bound_within ?c_Bound_within ?k_Bound_within ?h_pairs ?l_pairs ?c_pairs ?k_pairs ?h_smaller_limit ?l_smaller_limit ?c_smaller_limit ?k_smaller_limit ?h_nothing ?l_nothing ?c_nothing ?k_nothing ?h_law_cell ?l_law_cell ?c_law_cell ?k_law_cell ?h_law_row ?l_law_row ?c_law_row ?k_law_row ?h_law_less ?l_law_less ?c_law_less ?k_law_less ?h_law_plus ?l_law_plus ?c_law_plus ?k_law_plus ?h_law_times ?l_law_times ?c_law_times ?k_law_times ?h_law_drawn ?l_law_drawn ?c_law_drawn ?k_law_drawn ?h_law_made ?l_law_made ?c_law_made ?k_law_made ?h_law_at ?l_law_at ?c_law_at ?k_law_at ?h_law_plus_of ?l_law_plus_of ?c_law_plus_of ?k_law_plus_of ?h_law_within ?l_law_within ?c_law_within ?k_law_within ?h_law_is ?l_law_is ?c_law_is ?k_law_is ?h_law_refused ?l_law_refused ?c_law_refused ?k_law_refused ?h_law_told ?l_law_told ?c_law_told ?k_law_told ?h_law ?l_law ?c_law ?k_law ?hC_BadBound ?kc_BadBound ?xb_BadBound ?xt_BadBound ?xd_BadBound ?x_BadBound ?hC_PlayError ?kc_PlayError ?xb_PlayError ?xt_PlayError ?xd_PlayError ?hC_BadStep ?kc_BadStep ?xb_BadStep ?xt_BadStep ?xd_BadStep ?eg_BadBound ?ek_BadBound ?ea_BadBound ?em_BadBound ?zn_len ?zn_range ?zn_isinstance ?zn_abs ?zn_int ?zn_list ?zn_min ?hg_gcd ?sub_bp ?ki_b ?ki_s ?om_Bound ?ne_Bound
    (case o_n => first | k_is | k_exc | kit_is)
    (case o_t => first | k_is | k_exc | kit_is)
    (case hC_Ratio => first | k_is | k_exc | kit_is)
    (case pg_Ratio => first | k_is | k_exc | kit_is)
    (case hd_Ratio => first | k_is | k_exc | kit_is)
    (case po_Ratio => first | k_is | k_exc | kit_is)
    (case sa_Ratio => first | k_is | k_exc | kit_is)
    (case mk_Ratio => first | k_is | k_exc | kit_is)
    (case kc_Ratio => first | k_is | k_exc | kit_is)
    (case sf_Ratio => first | k_is | k_exc | kit_is)
    (case na_Ratio_num => first | k_is | k_exc | kit_is)
    (case na_Ratio_den => first | k_is | k_exc | kit_is)
    (case ia_Ratio => first | k_is | k_exc | kit_is)
    (case im_Ratio => first | k_is | k_exc | kit_is)
    (case ik_Ratio => first | k_is | k_exc | kit_is)
    (case hC_Bound => first | k_is | k_exc | kit_is)
    (case pg_Bound => first | k_is | k_exc | kit_is)
    (case hd_Bound => first | k_is | k_exc | kit_is)
    (case po_Bound => first | k_is | k_exc | kit_is)
    (case sa_Bound => first | k_is | k_exc | kit_is)
    (case mk_Bound => first | k_is | k_exc | kit_is)
    (case kc_Bound => first | k_is | k_exc | kit_is)
    (case sf_Bound => first | k_is | k_exc | kit_is)
    (case na_Bound_flat => first | k_is | k_exc | kit_is)
    (case na_Bound_first => first | k_is | k_exc | kit_is)
    (case na_Bound_more => first | k_is | k_exc | kit_is)
    (case na_Bound_limit => first | k_is | k_exc | kit_is)
    (case ia_Bound => first | k_is | k_exc | kit_is)
    (case im_Bound => first | k_is | k_exc | kit_is)
    (case ik_Bound => first | k_is | k_exc | kit_is)
    (case h_Ratio_init => first | k_is | k_exc | kit_is)
    (case i_Ratio_init => first | k_is | k_exc | kit_is)
    (case l_Ratio_init => first | k_is | k_exc | kit_is)
    (case dl_Ratio_init => first | k_is | k_exc | kit_is)
    (case c_Ratio_init => first | k_is | k_exc | kit_is)
    (case k_Ratio_init => first | k_is | k_exc | kit_is)
    (case h_Ratio_add => first | k_is | k_exc | kit_is)
    (case i_Ratio_add => first | k_is | k_exc | kit_is)
    (case l_Ratio_add => first | k_is | k_exc | kit_is)
    (case c_Ratio_add => first | k_is | k_exc | kit_is)
    (case k_Ratio_add => first | k_is | k_exc | kit_is)
    (case h_Ratio_mul => first | k_is | k_exc | kit_is)
    (case i_Ratio_mul => first | k_is | k_exc | kit_is)
    (case l_Ratio_mul => first | k_is | k_exc | kit_is)
    (case c_Ratio_mul => first | k_is | k_exc | kit_is)
    (case k_Ratio_mul => first | k_is | k_exc | kit_is)
    (case h_Ratio_eq => first | k_is | k_exc | kit_is)
    (case i_Ratio_eq => first | k_is | k_exc | kit_is)
    (case l_Ratio_eq => first | k_is | k_exc | kit_is)
    (case c_Ratio_eq => first | k_is | k_exc | kit_is)
    (case k_Ratio_eq => first | k_is | k_exc | kit_is)
    (case h_Ratio_below => first | k_is | k_exc | kit_is)
    (case i_Ratio_below => first | k_is | k_exc | kit_is)
    (case l_Ratio_below => first | k_is | k_exc | kit_is)
    (case c_Ratio_below => first | k_is | k_exc | kit_is)
    (case k_Ratio_below => first | k_is | k_exc | kit_is)
    (case h_Bound_init => first | k_is | k_exc | kit_is)
    (case i_Bound_init => first | k_is | k_exc | kit_is)
    (case l_Bound_init => first | k_is | k_exc | kit_is)
    (case dl_Bound_init => first | k_is | k_exc | kit_is)
    (case c_Bound_init => first | k_is | k_exc | kit_is)
    (case k_Bound_init => first | k_is | k_exc | kit_is)
    (case h_Bound_eq => first | k_is | k_exc | kit_is)
    (case i_Bound_eq => first | k_is | k_exc | kit_is)
    (case l_Bound_eq => first | k_is | k_exc | kit_is)
    (case c_Bound_eq => first | k_is | k_exc | kit_is)
    (case k_Bound_eq => first | k_is | k_exc | kit_is)
    (case h_Bound_at => first | k_is | k_exc | kit_is)
    (case i_Bound_at => first | k_is | k_exc | kit_is)
    (case l_Bound_at => first | k_is | k_exc | kit_is)
    (case c_Bound_at => first | k_is | k_exc | kit_is)
    (case k_Bound_at => first | k_is | k_exc | kit_is)
    (case h_Bound_plus => first | k_is | k_exc | kit_is)
    (case i_Bound_plus => first | k_is | k_exc | kit_is)
    (case l_Bound_plus => first | k_is | k_exc | kit_is)
    (case c_Bound_plus => first | k_is | k_exc | kit_is)
    (case k_Bound_plus => first | k_is | k_exc | kit_is)
    (case h_Bound_within => first | k_is | k_exc | kit_is)
    (case i_Bound_within => first | k_is | k_exc | kit_is)
    (case l_Bound_within => first | k_is | k_exc | kit_is)
    (case c_Bound_within => first | k_is | k_exc | kit_is)
    (case k_Bound_within => first | k_is | k_exc | kit_is)
    (case h_pairs => first | k_is | k_exc | kit_is)
    (case l_pairs => first | k_is | k_exc | kit_is)
    (case c_pairs => first | k_is | k_exc | kit_is)
    (case k_pairs => first | k_is | k_exc | kit_is)
    (case h_smaller_limit => first | k_is | k_exc | kit_is)
    (case l_smaller_limit => first | k_is | k_exc | kit_is)
    (case c_smaller_limit => first | k_is | k_exc | kit_is)
    (case k_smaller_limit => first | k_is | k_exc | kit_is)
    (case h_nothing => first | k_is | k_exc | kit_is)
    (case l_nothing => first | k_is | k_exc | kit_is)
    (case c_nothing => first | k_is | k_exc | kit_is)
    (case k_nothing => first | k_is | k_exc | kit_is)
    (case h_law_cell => first | k_is | k_exc | kit_is)
    (case l_law_cell => first | k_is | k_exc | kit_is)
    (case c_law_cell => first | k_is | k_exc | kit_is)
    (case k_law_cell => first | k_is | k_exc | kit_is)
    (case h_law_row => first | k_is | k_exc | kit_is)
    (case l_law_row => first | k_is | k_exc | kit_is)
    (case c_law_row => first | k_is | k_exc | kit_is)
    (case k_law_row => first | k_is | k_exc | kit_is)
    (case h_law_less => first | k_is | k_exc | kit_is)
    (case l_law_less => first | k_is | k_exc | kit_is)
    (case c_law_less => first | k_is | k_exc | kit_is)
    (case k_law_less => first | k_is | k_exc | kit_is)
    (case h_law_plus => first | k_is | k_exc | kit_is)
    (case l_law_plus => first | k_is | k_exc | kit_is)
    (case c_law_plus => first | k_is | k_exc | kit_is)
    (case k_law_plus => first | k_is | k_exc | kit_is)
    (case h_law_times => first | k_is | k_exc | kit_is)
    (case l_law_times => first | k_is | k_exc | kit_is)
    (case c_law_times => first | k_is | k_exc | kit_is)
    (case k_law_times => first | k_is | k_exc | kit_is)
    (case h_law_drawn => first | k_is | k_exc | kit_is)
    (case l_law_drawn => first | k_is | k_exc | kit_is)
    (case c_law_drawn => first | k_is | k_exc | kit_is)
    (case k_law_drawn => first | k_is | k_exc | kit_is)
    (case h_law_made => first | k_is | k_exc | kit_is)
    (case l_law_made => first | k_is | k_exc | kit_is)
    (case c_law_made => first | k_is | k_exc | kit_is)
    (case k_law_made => first | k_is | k_exc | kit_is)
    (case h_law_at => first | k_is | k_exc | kit_is)
    (case l_law_at => first | k_is | k_exc | kit_is)
    (case c_law_at => first | k_is | k_exc | kit_is)
    (case k_law_at => first | k_is | k_exc | kit_is)
    (case h_law_plus_of => first | k_is | k_exc | kit_is)
    (case l_law_plus_of => first | k_is | k_exc | kit_is)
    (case c_law_plus_of => first | k_is | k_exc | kit_is)
    (case k_law_plus_of => first | k_is | k_exc | kit_is)
    (case h_law_within => first | k_is | k_exc | kit_is)
    (case l_law_within => first | k_is | k_exc | kit_is)
    (case c_law_within => first | k_is | k_exc | kit_is)
    (case k_law_within => first | k_is | k_exc | kit_is)
    (case h_law_is => first | k_is | k_exc | kit_is)
    (case l_law_is => first | k_is | k_exc | kit_is)
    (case c_law_is => first | k_is | k_exc | kit_is)
    (case k_law_is => first | k_is | k_exc | kit_is)
    (case h_law_refused => first | k_is | k_exc | kit_is)
    (case l_law_refused => first | k_is | k_exc | kit_is)
    (case c_law_refused => first | k_is | k_exc | kit_is)
    (case k_law_refused => first | k_is | k_exc | kit_is)
    (case h_law_told => first | k_is | k_exc | kit_is)
    (case l_law_told => first | k_is | k_exc | kit_is)
    (case c_law_told => first | k_is | k_exc | kit_is)
    (case k_law_told => first | k_is | k_exc | kit_is)
    (case h_law => first | k_is | k_exc | kit_is)
    (case l_law => first | k_is | k_exc | kit_is)
    (case c_law => first | k_is | k_exc | kit_is)
    (case k_law => first | k_is | k_exc | kit_is)
    (case hC_BadBound => first | k_is | k_exc | kit_is)
    (case kc_BadBound => first | k_is | k_exc | kit_is)
    (case xb_BadBound => first | k_is | k_exc | kit_is)
    (case xt_BadBound => first | k_is | k_exc | kit_is)
    (case xd_BadBound => first | k_is | k_exc | kit_is)
    (case x_BadBound => first | k_is | k_exc | kit_is)
    (case hC_PlayError => first | k_is | k_exc | kit_is)
    (case kc_PlayError => first | k_is | k_exc | kit_is)
    (case xb_PlayError => first | k_is | k_exc | kit_is)
    (case xt_PlayError => first | k_is | k_exc | kit_is)
    (case xd_PlayError => first | k_is | k_exc | kit_is)
    (case hC_BadStep => first | k_is | k_exc | kit_is)
    (case kc_BadStep => first | k_is | k_exc | kit_is)
    (case xb_BadStep => first | k_is | k_exc | kit_is)
    (case xt_BadStep => first | k_is | k_exc | kit_is)
    (case xd_BadStep => first | k_is | k_exc | kit_is)
    (case eg_BadBound => first | k_is | k_exc | kit_is)
    (case ek_BadBound => first | k_is | k_exc | kit_is)
    (case ea_BadBound => first | k_is | k_exc | kit_is)
    (case em_BadBound => first | k_is | k_exc | kit_is)
    (case zn_len => first | k_is | k_exc | kit_is)
    (case zn_range => first | k_is | k_exc | kit_is)
    (case zn_isinstance => first | k_is | k_exc | kit_is)
    (case zn_abs => first | k_is | k_exc | kit_is)
    (case zn_int => first | k_is | k_exc | kit_is)
    (case zn_list => first | k_is | k_exc | kit_is)
    (case zn_min => first | k_is | k_exc | kit_is)
    (case hg_gcd => first | k_is | k_exc | kit_is)
    (case sub_bp => first | k_is | k_exc | kit_is)
    (case ki_b => first | k_is | k_exc | kit_is)
    (case ki_s => first | k_is | k_exc | kit_is)
    (case om_Bound => first | k_is | k_exc | kit_is)
    (case ne_Bound => first | k_is | k_exc | kit_is)
