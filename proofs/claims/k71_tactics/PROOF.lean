import PyProof.Rows.All
import Wide.All
import OpenK.AllK
import Wide.FinOn
import HandS.ForMost
import HandS.ForExc
import HandS.TupAny
import HandS.Wide
import HandS.IsInst
import HandS.Defaults
import HandS.AnyAll
import HandS.Walk
import HandS.TupLen
import PySem.Challenge.RW_tellsnone_k71_texts_of_tactics
import KE.KExcSuper
import KE.KSuper
import KE.KExcMake
import HandS.ExcInit
import HandS.Nested
import HandS.FStr
import PyProof.FitsInt
import HandS.OwnEq
import HandS.ExcIs
import HandS.ExcOwn
import HandS.Gcd
import HandS.SlotsOwn
import KE.IntTextLaws
import HandS.Dict
import HandS.DictComp
import HandS.WrittenGet
import HandS.Zip
import HandS.Star
import HandS.RaiseMore
import HandS.Text
import KE.KRevSl
import KE.KExcIs
import HandS.ExcField
set_option Elab.async false
set_option linter.all false
set_option maxRecDepth 100000
set_option maxHeartbeats 4000000
/-! An own error under ValueError whose __init__ begins with super().__init__(e): its __init__ as a def that keeps a promise (pmk_oex makes of it the rule of C(e, ..)). -/
namespace Mine
open PySem PySem.Calls L2 NdefX PyProof.Rows
section
variable {X : Cx} {pins : List (Addr × Obj)} {σ : L2.St} {H : Hp} {s : Shared} {A : Around} {E : Value → Shared → Prop}
/-- the built-in __init__, bound to an exception that is being made, is called -/
theorem call_mw {a C u : Addr} {us : List Value} {Q : Value → Shared → Prop} (T : OexC X.K C) (I : Inv X pins σ H s) (e : H a = some (exo a C none)) (hu : s.heap.get? u = some (PySem.W.kxs_mw "ValueError.__init__" a)) (hl : us.length ≤ sizeLine)
    (h : ∀ s', Inv X pins σ H s' → Q .none s') : wpAny (model X.prog X.w) A (call (.ref u) us) Q E s := by
  obtain ⟨nm, q, N, bs, bm, sn, sub, ab, col, dd, k0, k1, k2, k3, k5, hC, hbm⟩ := T.cls
  obtain ⟨t1, ho⟩ := exo_at I.hok e
  have hCh := I.kIn _ _ hC
  obtain ⟨hp, g, d, t, os⟩ := s
  refine wpAny_call (codeAny_of_tree ?_)
  show wpAny _ A.in1 (callAny (.ref u) ⟨us, []⟩) _ _ _
  simp only [callAny]
  refine wpAny_bind (wpAny_load hu ?_)
  simp only [PySem.W.kxs_mw, show (Value.type "method-wrapper" == Value.type "method" || Value.type "method-wrapper" == Value.type "builtin_function_or_method" || Value.type "method-wrapper" == Value.type "method-wrapper") = true by decide, if_true]
  refine PySem.W.KFB.if_so (by decide) ?_
  refine wpAny_bind (PySem.W.check_bound_init F.excBase_ValueError.toExcCallFacts hCh ho rfl ?_)
  refine wpAny_bind (wpAny_pure (wpAny_pure ?_))
  refine ⟨plainId_quiet F.excBase_ValueError.init.plain _, codeAny_builtin F.excBase_ValueError.initEntry ?_⟩
  refine PySem.W.exc_init_tree (cls := .ref C) (t0 := t1) (dv := none) (c2 := .none) (c3 := .none) (b4 := .bool false) ho hl fun h' k hx _ => ?_
  have J := I.write (t' := t) (x := a) (e := a) (o := exo a C none) (by rw [e]; exact True.intro) (.inl rfl) k ⟨_, hx⟩ (exo_ok hx)
  have eu : upd H a (exo a C none) = H := by
    funext b
    by_cases hb : b = a
    · rw [hb, upd_same, e]
    · rw [upd_ne hb]
  rw [eu] at J
  exact h _ J
end
section
variable {CX : CXT} {P : Program} {w : World} {K : PySem.W.Frag} {mg : Str → Option Value} {base : Heap} {k : Nat} {f cda cc D : Addr} {name qual self : Str} {params : Arguments} {scope : Scope} {dV kV doc pm ct oc ccl cl : Value} {an od cdd cld : Option Addr}
  {osl ccs csl : Array (Option Value)} {vs0 : Array Value} {file : Str} {tf : Tok} {N ps0 : List Str} {sp : Sp} {p0 p1 p2 p3 p4 : Pos} {arg : Expr} {rest : List Stmt} {ar : Arg} {cdD : ClassData}
theorem one_look {n y : Str} {c0 c : Addr} (h : ([(n, c0)] : List (Str × Addr)).lookup y = some c) : y = n ∧ c = c0 := by
  unfold List.lookup at h
  split at h
  · rename_i e
    exact ⟨eq_of_beq e, (Option.some.inj h).symm⟩
  · cases h
/-- what the written part says of such an __init__ -/
structure SupIn (K : PySem.W.Frag) (D cda cc : Addr) : Prop where
  code : ∃ ccl cdd vs0 ccs file tf, K.lookup cda = some (⟨ccl, cdd, .fields vs0, ccs⟩ : Obj) ∧ vs0[2]? = some (Value.str file tf)
  cell : ∃ cl cld csl, K.lookup cc = some (⟨cl, cld, .cell (some (.ref D)), csl⟩ : Obj)
  any : PySem.W.nsIn K cStatics "thirdparty.any" = some none
  sup : PySem.W.ks_superIn K D D "__init__" = some (some (.builtin "ValueError.__init__"))
  subV : PySem.W.subIn K (.ref D) (.type "ValueError") = some true
  mro : PySem.W.mroIn K D (.ref D) = some true
theorem fn_super (lk : K.lookup f = some ⟨oc, od, .func (PySem.W.ksFn name qual params (.Expr (.Call (.Attribute (.Call (.Name "super" p0) [] [] p1) "__init__" p2) [arg] [] p3) p4 :: rest) scope dV kV doc pm an (.ref cda) ct cc), osl⟩)
    (hcd : PySem.W.codeIn K (.ref cda) qual = true) (S : NScope N (self :: ps0) ["__class__"] scope) (TO : OexC K D)
    (hcode : K.lookup cda = some ⟨ccl, cdd, .fields vs0, ccs⟩) (hvs : vs0[2]? = some (.str file tf)) (hfile : ((P.main.file : Str) == file) = true)
    (hcell : K.lookup cc = some ⟨cl, cld, .cell (some (.ref D)), csl⟩) (any : PySem.W.nsIn K cStatics "thirdparty.any" = some none)
    (sup : PySem.W.ks_superIn K D D "__init__" = some (some (.builtin "ValueError.__init__"))) (subV : PySem.W.subIn K (.ref D) (.type "ValueError") = some true) (mro : PySem.W.mroIn K D (.ref D) = some true)
    (hpar : (params.posonlyargs ++ params.args).head? = some ar) (har : ar.arg = self) (hks : scope.names.lookup ("super" : Str) = some .globalImplicit) (htop : (P.main.scope.names.lookup ("super" : Str)).isSome = false) (hsuper : mg "super" = none)
    (he : ∀ env, starEach [arg] env = [(false, eval arg env)] := by intro _; rfl) (hsw : ∀ L, swapsWith (.Call (.Attribute (.Call (.Name "super" p0) [] [] p1) "__init__" p2) [arg] [] p3) none p4.line (PySem.W.ksEnv qual scope L f (.ref cda) cc) = pure false := by intro _; rfl)
    {pl : Env → Sem Bool} (hev : ∀ env, eval (.Call (.Attribute (.Call (.Name "super" p0) [] [] p1) "__init__" p2) [arg] [] p3) env = (do
      let ov ← attributeBase (.Call (.Name "super" p0) [] [] p1) "__init__" env (eval (.Call (.Name "super" p0) [] [] p1) env)
      standAt p2.atName
      let (f, first) ← holding [ov] (getMethod ov "__init__" (pl env))
      callWith p3 f first (backTo p3 (starEach [arg] env)) []) := by intro _; rfl)
    (len : ∀ vs H Q E, sp vs H Q E → vs.length = (self :: ps0).length)
    (hbody : ∀ (A : Around) (outer : List Env) (s : Shared) (H : Hp) (vs : List V) (Q : VK) (E : XK), Room k (A.deeper (PySem.W.ksEnv qual scope s.heap.objs.size f (.ref cda) cc)) → sp vs H Q E →
      ∃ (a : Addr) (vr : List V) (ta : TA) (t : TS), vs = .ref a :: vr ∧ H a = some (exo a D none) ∧
        PA (ncx CX P w K mg base N ⟨name, qual, params, .Expr (.Call (.Attribute (.Call (.Name "super" p0) [] [] p1) "__init__" p2) [arg] [] p3) p4 :: rest, scope, [("__class__", cc)], cda⟩ f A outer s H E) [arg] ta ∧
        PSs (ncx CX P w K mg base N ⟨name, qual, params, .Expr (.Call (.Attribute (.Call (.Name "super" p0) [] [] p1) "__init__" p2) [arg] [] p3) p4 :: rest, scope, [("__class__", cc)], cda⟩ f A outer s H E) rest t ∧
        ta (startF N vs [none]) H fun ws H1 => ws.length ≤ 1000 ∧ H1 a = some (exo a D none) ∧ t { nx := fun _ H' => Q .non H', rt := Q } (startF N vs [none]) H1) :
    FnOk P w K mg base CX (k + 1) f (PySem.W.ksFn name qual params (.Expr (.Call (.Attribute (.Call (.Name "super" p0) [] [] p1) "__init__" p2) [arg] [] p3) p4 :: rest) scope dV kV doc pm an (.ref cda) ct cc) (self :: ps0) sp := by
  refine ⟨len, fun A outer s H args us vs Q E hr e0 hb r hsp => ?_⟩
  have hl := len _ _ _ _ hsp
  have KX : K.In s.heap := e0.mod.kin.keeps fun b o e => (e0.bs b o e).1
  have lim : s.heap.NoLimit := e0.mod.nolimit.keeps fun b o e => (e0.bs b o e).1
  refine PySem.ks_codeAny_call_defAt hr.depth (KX _ _ lk) rfl lim (PySem.W.codeRec_of KX hcd) rfl hb (fun x hx => S.nocell x hx) (fun ⟨n, v⟩ hy => S.par n (List.of_mem_zip hy).1) (fun h₁ hns kp => ?_) S.co S.gen S.kind
  obtain ⟨a, vr, ta, t, ev, ea, hA, hS, hta⟩ := hbody A outer s H vs Q E (hr.deeper _) hsp
  have C : CellsAt [("__class__", cc)] ["__class__"] [none] s.heap H := by
    have cb := e0.bs _ _ (e0.mod.kin _ _ hcell)
    refine ⟨rfl, fun y c e => ?_, fun x y c e1 e2 => ?_, fun i y e => ?_⟩
    · obtain ⟨_, rfl⟩ := one_look e
      exact ⟨cb.2, _, _, cb.1, rfl⟩
    · rw [(one_look e1).1, (one_look e2).1]
    · cases i with
      | zero =>
        have : y = "__class__" := (Option.some.inj e).symm
        subst this
        exact ⟨cc, rfl, fun v z => by cases z⟩
      | succ i => simp at e
  have I := inv_startN (F := ⟨name, qual, params, .Expr (.Call (.Attribute (.Call (.Name "super" p0) [] [] p1) "__init__" p2) [arg] [] p3) p4 :: rest, scope, [("__class__", cc)], cda⟩) (f := f) (CX := CX) (E := E) (tk := s.toks + ((self :: ps0).zip us).length) S hr.hd e0 hl r C hns kp
  have hN0 : N[0]? = some self := by
    have q := S.pre
    cases N with
    | nil => simp at q
    | cons n N' =>
      have q2 : n :: N'.take (ps0.length + 1) = self :: (ps0 ++ [("__class__" : Str)]) := q
      exact congrArg some (List.cons.inj q2).1
  have hself : ∃ m, h₁.Ns s.heap.objs.size m ∧ m self = some (.ref a) := by
    obtain ⟨m, hn, hlk⟩ := I.loc
    obtain ⟨u, ru, L⟩ := hlk 0 self (.ref a) hN0 (by subst ev; rfl) (.inl (S.par self List.mem_cons_self))
    obtain rfl : u = .ref a := ru
    rcases L with ⟨_, e⟩ | ⟨z | z, _⟩
    · exact ⟨m, hn, e⟩
    · have := S.par self List.mem_cons_self
      rw [show scope.names.lookup self = some .cell from z] at this
      cases this
    · have := S.par self List.mem_cons_self
      rw [show scope.names.lookup self = some .free from z] at this
      cases this
  obtain ⟨m, hm, hms⟩ := hself
  obtain ⟨mb, b1, b2⟩ := I.mod.blt
  obtain ⟨nm, q, NN, bs, bm, sn, sub, ab, col, dd, k0, k1, k2, k3, k5, hC, hbm⟩ := TO.cls
  have hDc : PySem.W.clsIn K D = some { name := nm, bases := bs, mro := .ref D :: bm, ns := NN, qualname := q, hasDict := true, slotNames := sn, subclasses := sub, abstract := ab, collection := col, hasDel := false } := by unfold PySem.W.clsIn; rw [hC] <;> rfl
  obtain ⟨t1, ho⟩ := exo_at I.hok ea
  have KH := I.kIn
  have hkc : scope.names.lookup ("__class__" : Str) = some .free := S.frk _ (List.mem_singleton.mpr rfl)
  have hint : ∀ L, interactive (PySem.W.ksEnv qual scope L f (.ref cda) cc) = false := fun L => by
    unfold interactive
    rw [show (PySem.W.ksEnv qual scope L f (.ref cda) cc).scope.kind = .function from S.kind]
    rfl
  refine PySem.ks_wpAt_execs_cons (PySem.ks_wpAt_Expr_any (PySem.ks_wpAt_MethodCall ?_ (hev _)) (hint _) (hsw _))
  refine PySem.ks_wpAt_super_base (ar := ar) hks hkc (by decide) rfl (KH _ _ lk) rfl hpar rfl (KH _ _ hcode) rfl hvs hfile htop ?_
  refine PySem.W.ks_loadName_global S.kind hks (Calls.loadGlobal_builtin (I.mod.glob.keeps I.bk) hsuper (b1.keeps I.bk) ((b2 "super" (by decide)).trans (by decide +kernel)) ⟨rfl, ?_⟩)
  refine wpAny_loadName_free S.kind hkc rfl ⟨_, KH _ _ hcell, rfl⟩ ?_
  refine wpAny_loadName_local S.kind (show scope.names.lookup ar.arg = some .local by rw [har]; exact S.par self List.mem_cons_self) hm (by rw [har]; exact hms) ?_
  refine PySem.ks_wpAny_isType_cls (KH _ _ hC) rfl ⟨rfl, ?_⟩
  refine PySem.ks_wpAny_call_super (KH _ _ hC) rfl ho rfl (fun c e => by cases e) (PySem.W.looks_mroIn KH mro) (fun h' e2 k2 => ?_)
  have I2 := I.kept (t' := s.toks + ((self :: ps0).zip us).length) k2
  obtain ⟨t2, ho2⟩ := exo_at I2.hok ea
  have IA : PySem.W.InstAt h' a ({ cls := .ref D, dict := none, data := .fields #[.ref t2, .none, .none, .none, .bool false, .none] } : Obj) D none := ⟨ho2, rfl, rfl, trivial⟩
  have KH2 : K.In h' := I2.kIn
  have supA : PySem.W.alongIn K "__init__" (((Value.ref D :: bm).dropWhile (· != .ref D)).drop 1) = some (some (.builtin "ValueError.__init__")) := by
    have z := sup
    unfold PySem.W.ks_superIn at z
    rw [hDc] at z
    exact z
  refine PySem.W.kxs_getMethod PySem.W.kxs_ValueError e2 (PySem.W.looks_opaque KH2 any) (l₀ := Value.ref D :: bm) (fun A Q E s k q => wpAny_bind ((PySem.W.looks_clsIn KH2 hDc) A _ E s k (wpAny_pure q))) rfl KH2 supA (IA.type.andThen (PySem.W.looks_subIn KH2 subV)) (PySem.W.ks_ne KH2 IA hDc) (by decide) ?_
  have I3 := I2.kept (h' := h'.push (PySem.W.kxs_mw "ValueError.__init__" a)) (t' := s.toks + ((self :: ps0).zip us).length + 1) (fun b u e => Heap.get?_push_of_some _ e)
  have I4 := I3.pins_of (pins' := [(h'.objs.size, PySem.W.kxs_mw "ValueError.__init__" a)]) (fun p hp => by
    obtain rfl : p = (h'.objs.size, PySem.W.kxs_mw "ValueError.__init__" a) := List.mem_singleton.mp hp
    exact ⟨Heap.get?_push_at rfl rfl, I2.hok.fresh (Nat.le_refl _), fun z => absurd I2.lt (by rw [← z]; exact Nat.lt_irrefl _), I2.nofs (Nat.le_refl _), fun v z => by cases z⟩)
  have hA4 := hA.run p3 _ _ _ _ _ I4 hta
  rw [he] at hA4 ⊢
  refine PySem.W.kxs_callWith (i := "ValueError.__init__") (x := a) rfl ?_
  refine evalArgs_plain (thn hA4 fun us4 s4 ⟨ws, H1, I5, r5, hz, ea5, ht⟩ => ⟨(I5.pin _ (List.mem_append_right _ (List.mem_singleton.mpr rfl))).1, ?_⟩)
  have hlen : us4.length ≤ sizeLine := by
    rw [← Paired.length r5, sizeLine_eq]
    omega
  refine call_mw TO I5 ea5 (I5.pin _ (List.mem_append_right _ (List.mem_singleton.mpr rfl))).1 hlen fun s5 J => ?_
  refine wpAt_of_wpAny (wpAny_mono (hS.run _ s5 _ _ _ J ht) (fun fl s' hs => ?_) fun e s' hs => hs)
  have fin : ∀ {σ' : L2.St} {H' : Hp} {v : V} {u : Value} {pn : List (Addr × Obj)}, Inv (ncx CX P w K mg base N ⟨name, qual, params, .Expr (.Call (.Attribute (.Call (.Name "super" p0) [] [] p1) "__init__" p2) [arg] [] p3) p4 :: rest, scope, [("__class__", cc)], cda⟩ f A outer s H E) pn σ' H' s' → L2.RelV v u → Q v H' → CE outer P w H s Q u s' :=
    fun {σ' H' v u pn} J rv q => ⟨v, H', J.os, J.bare, J.base, J.hok, rv, q⟩
  cases fl with
  | ret u =>
    obtain ⟨v, σ', H', J, rv, q⟩ := hs
    exact fin J rv q
  | next =>
    obtain ⟨σ', H', J, q⟩ := hs
    exact fin (v := V.non) (u := Value.none) J rfl q
  | brk =>
    obtain ⟨_, _, _, q⟩ := hs
    exact False.elim q
  | cont =>
    obtain ⟨_, _, _, q⟩ := hs
    exact False.elim q
end
end Mine
set_option Elab.async false
set_option linter.all false
set_option maxRecDepth 100000
set_option maxHeartbeats 4000000
/-! class E(..): def __init__(self, x): super().__init__(f"..{x}.."); self.f = x, E under ValueError: C(e) as a rule. -/
namespace Mine
open PySem PySem.Calls L2 NdefX PyProof.Rows
structure ErrF (K : PySem.W.Frag) (mg : Str → Option Value) (C f : Addr) (fd : FuncData) (qual : Str) (st : Stmt) (file fld : Str) : Prop where
  ex : ∃ (oc : Value) (od : Option Addr) (osl : Array (Option Value)) (dV kV doc pm : Value) (an : Option Addr) (cda : Addr) (ct : Value) (cc : Addr) (ccl : Value) (cdd : Option Addr) (ccs : Array (Option Value)) (vs0 : Array Value) (tf : Tok) (cl : Value) (cld : Option Addr) (csl : Array (Option Value)),
    fd = PySem.W.ksFn "__init__" qual (defArgs st) (defBody st) (defScope st) dV kV doc pm an (.ref cda) ct cc ∧ K.lookup f = some ⟨oc, od, .func fd, osl⟩ ∧ PySem.W.codeIn K (.ref cda) qual = true ∧
    K.lookup cda = some ⟨ccl, cdd, .fields vs0, ccs⟩ ∧ vs0[2]? = some (.str file tf) ∧ K.lookup cc = some ⟨cl, cld, .cell (some (.ref C)), csl⟩
  any : PySem.W.nsIn K cStatics "thirdparty.any" = some none
  sup : PySem.W.ks_superIn K C C "__init__" = some (some (.builtin "ValueError.__init__"))
  subV : PySem.W.subIn K (.ref C) (.type "ValueError") = some true
  mro : PySem.W.mroIn K C (.ref C) = some true
  T : OexC K C
  iC : PySem.W.findIn K (.ref C) "__init__" = some (some (.ref f))
  tI : PySem.W.typeIn K (.ref f) = some (.type "function")
  no : PySem.W.findIn K (.ref C) fld = some none
  z : mg "super" = none
/-- the program's own file -/
def PrF (P : Program) (file : Str) : Prop := ((P.main.file : Str) == file) = true ∧ (P.main.scope.names.lookup ("super" : Str)).isSome = false
theorem len_app {a b : Str} {m n : Nat} (ha : a.length ≤ m) (hb : b.length ≤ n) : (a ++ b).length ≤ m + n := by rw [Str.length_append]; exact Nat.add_le_add ha hb
theorem int_len {i : Int} (hi : i.natAbs < 2 ^ 64) : (Str.ofString (toString i)).length ≤ 65 ∧ i.natAbs.log2 < 1920 := by
  have h := PySem.Flt.log2_lt_of (k := 64) (by decide) hi
  refine ⟨?_, Nat.lt_of_lt_of_le h (by decide)⟩
  rw [PySem.ofString_length]
  exact int_text_length_le (k := 64) (by decide) h
theorem emp_len : Str.empty.length ≤ 0 := by decide +kernel
section
variable {a b : Str} {σ : L2.St} {H : Hp} {Q : VK}
theorem js_I3 {i : Int} (ha : a.length ≤ 1000) (hb : b.length ≤ 1000) (e : σ[1]? = some (some (.int i))) (hi : i.natAbs < 2 ^ 64) (q : ∀ t : Str, Q (.str t) H) :
    tJs [tC (.str a), tFmt (tVar 1), tC (.str b)] Str.empty σ H fun out H1 => Q (.str out) H1 := by
  have l1 := len_app emp_len ha
  have l2 := len_app l1 (int_len hi).1
  have l3 := len_app l2 hb
  exact ⟨_, rfl, Nat.le_trans l1 (by decide), _, e, .inr ⟨i, rfl, (int_len hi).2, _, rfl, Nat.le_trans l2 (by decide), _, rfl, Nat.le_trans l3 (by decide), q _⟩⟩
theorem js_S3 {y : Str} (ha : a.length ≤ 1000) (hb : b.length ≤ 1000) (e : σ[1]? = some (some (.str y))) (hi : y.length ≤ 1000) (q : ∀ t : Str, Q (.str t) H) :
    tJs [tC (.str a), tFmt (tVar 1), tC (.str b)] Str.empty σ H fun out H1 => Q (.str out) H1 := by
  have l1 := len_app emp_len ha
  have l2 := len_app l1 hi
  have l3 := len_app l2 hb
  exact ⟨_, rfl, Nat.le_trans l1 (by decide), _, e, .inl ⟨y, rfl, Nat.le_trans hi (by decide), _, rfl, Nat.le_trans l2 (by decide), _, rfl, Nat.le_trans l3 (by decide), q _⟩⟩
theorem js_S2 {y : Str} (ha : a.length ≤ 1000) (e : σ[1]? = some (some (.str y))) (hi : y.length ≤ 1000) (q : ∀ t : Str, Q (.str t) H) :
    tJs [tC (.str a), tFmt (tVar 1)] Str.empty σ H fun out H1 => Q (.str out) H1 := by
  have l1 := len_app emp_len ha
  have l2 := len_app l1 hi
  exact ⟨_, rfl, Nat.le_trans l1 (by decide), _, e, .inl ⟨y, rfl, Nat.le_trans hi (by decide), _, rfl, Nat.le_trans l2 (by decide), q _⟩⟩
end
/-- what such an __init__ promises -/
def spErr (D : Addr) (fld : Str) (ok : V → Prop) : Sp := fun vs H Q _ => ∃ (a : Addr) (y : V), vs = [.ref a, y] ∧ H a = some (exo a D none) ∧ ok y ∧ ∀ dx, H dx = none → dx ≠ a → Q .non (upd (upd H dx (exd dx [(fld, y)])) a (exo a D (some dx)))
section
variable {P : Program} {w : World} {K : PySem.W.Frag} {mg : Str → Option Value} {base : Heap} {k : Nat} {C f : Addr} {fd : FuncData} {qual file fld x : Str} {st : Stmt} {p0 p1 p2 p3 p4 a1 a2 a3 a4 : Pos} {arg : Expr} {ar : Arg} {targ : TE} {ok : V → Prop}
theorem err_ok (F : ErrF K mg C f fd qual st file fld) (hfile : ((P.main.file : Str) == file) = true) (htop : (P.main.scope.names.lookup ("super" : Str)).isSome = false)
    (hb : defBody st = [.Expr (.Call (.Attribute (.Call (.Name "super" p0) [] [] p1) "__init__" p2) [arg] [] p3) p4, .Assign [.Attribute (.Name "self" a1) fld a2] (.Name x a3) a4])
    (S : NScope [("self" : Str), x, "__class__"] [("self" : Str), x] ["__class__"] (defScope st)) (hpar : ((defArgs st).posonlyargs ++ (defArgs st).args).head? = some ar) (har : ar.arg = "self") (hks : (defScope st).names.lookup ("super" : Str) = some .globalImplicit)
    (he : ∀ env, starEach [arg] env = [(false, eval arg env)]) (hsw : ∀ env, swapsWith (.Call (.Attribute (.Call (.Name "super" p0) [] [] p1) "__init__" p2) [arg] [] p3) none p4.line env = pure false)
    {pl : Env → Sem Bool} (hev : ∀ env, eval (.Call (.Attribute (.Call (.Name "super" p0) [] [] p1) "__init__" p2) [arg] [] p3) env = (do
      let ov ← attributeBase (.Call (.Name "super" p0) [] [] p1) "__init__" env (eval (.Call (.Name "super" p0) [] [] p1) env)
      standAt p2.atName
      let (f, first) ← holding [ov] (getMethod ov "__init__" (pl env))
      callWith p3 f first (backTo p3 (starEach [arg] env)) []))
    (hsw2 : ∀ env, swapsWith (.Name x a3) (some (.Attribute (.Name "self" a1) fld a2)) a4.line env = pure false)
    (hx : (x == ("__debug__" : Str)) = false) (hx2 : (x == ("__classdict__" : Str)) = false)
    (harg : ∀ X : Cx, X.N = [("self" : Str), x, "__class__"] → X.env.scope = defScope st → PE X arg targ)
    (htarg : ∀ (σ : L2.St) (H : Hp) (y : V) (Q : VK), σ[1]? = some (some y) → ok y → (∀ t : Str, Q (.str t) H) → targ σ H Q) :
    FnOk P w K mg base CX0 (k + 1) f fd [("self" : Str), x] (spErr C fld ok) := by
  obtain ⟨oc, od, osl, dV, kV, doc, pm, an, cda, ct, cc, ccl, cdd, ccs, vs0, tf, cl, cld, csl, efd, lk, hcd, hcode, hvs, hcell⟩ := F.ex
  rw [hb] at efd
  subst efd
  refine fn_super lk hcd S F.T hcode hvs hfile hcell F.any F.sup F.subV F.mro hpar har hks htop F.z he (fun _ => hsw _) hev (fun vs H Q E ⟨a, y, e, _⟩ => by rw [e]; rfl) (fun A outer s H vs Q E hr h => ?_)
  obtain ⟨a, y, e, ea, oy, q⟩ := h
  subst e
  have vx : ∀ z : Str, z ∈ [("self" : Str), x] → Vis (defScope st) z := fun z hz => .inl (S.par z hz)
  refine ⟨a, [y], _, _, rfl, ea, pa_cons (harg _ rfl rfl) pa_nil (by rw [he] <;> first | rfl | simp [starEach]), pss_one (ps_ost (pe_var (i := 0) rfl (vx _ List.mem_cons_self)) (pe_var (i := 1) rfl (vx _ (List.mem_cons_of_mem _ List.mem_cons_self)) hx hx2) (hsw2 _)), ?_⟩
  refine htarg _ _ y _ rfl oy fun t => ?_
  show _ ∧ _
  refine ⟨by simp, ea, y, rfl, .ref a, rfl, a, C, rfl, F.T, F.no, .inl ⟨ea, fun dx hn hd => q dx hn hd⟩⟩
/-- C(e) -/
def tErr (C : Addr) (fld : Str) (ok : V → Prop) (ta : TA) : L2.St → Hp → XK → Prop := fun σ H Q => ta σ H fun vs H1 => ∃ y, vs = [y] ∧ ok y ∧ ∀ d, H1 d = none → Q (.ref C) (some d) (upd H1 d (.xd [(fld, y)]))
theorem pmk_err {X : Cx} {nm : Str} {e : Expr} {es : List Expr} {ta : TA} {p pos : Pos} (F : ErrF X.K X.mg C f fd qual st file fld) (G : FnOk X.prog X.w X.K X.mg X.base CX0 k f fd [("self" : Str), x] (spErr C fld ok)) (hb : Binds X.K fd [("self" : Str), x] [])
    (hr : Room (k + 1) X.A) (hg : Gl X nm) (hm : X.mg nm = some (.ref C)) (ha : PA X (e :: es) ta)
    (hdb : (nm == ("__debug__" : Str)) = false := by decide) (he : starEach (e :: es) X.env = (false, eval e X.env) :: starEach es X.env := by rfl) (hpl : (backTo pos (starEach es X.env)).any (·.1) = false := by rfl) :
    PMk X (.Call (.Name nm p) (e :: es) [] pos) (tErr C fld ok ta) := by
  intro pins s σ H Q I h
  have ha' : PA X (e :: es) (fun σ H Q => ∃ Q', ta σ H Q' ∧ ∀ vs H1, Q' vs H1 → Q vs H1) := ⟨fun pos pins s σ H Q I ⟨Q', q, m⟩ => thn (ha.run pos pins s σ H Q' I q) fun us s1 ⟨vs, H1, J, r, z⟩ => ⟨vs, H1, J, r, m _ _ z⟩⟩
  refine pmk_oex F.T F.iC F.tI G hr hb .nil pass0 hg hm ha' hdb he hpl pins s σ H Q I ⟨_, h, fun vs H1 z => ?_⟩
  obtain ⟨y, rfl, oy, q⟩ := z
  refine ⟨by simp, fun a hna => ?_⟩
  show spErr C fld ok [.ref a, y] _ _ _
  refine ⟨a, y, rfl, upd_same, oy, fun dx hd hn => ⟨rfl, dx, [(fld, y)], upd_same, ?_, ?_, ?_⟩⟩
  · rw [upd_ne hn, upd_same]
  · rw [upd_ne hn] at hd
    exact hd
  · rw [upd_ne hn] at hd
    have e : upd (del (upd (upd (upd H1 a (exo a C none)) dx (exd dx [(fld, y)])) a (exo a C (some dx))) a) dx (.xd [(fld, y)]) = upd H1 dx (.xd [(fld, y)]) := by
      funext b
      by_cases h1 : b = dx
      · rw [h1, upd_same, upd_same]
      · rw [upd_ne h1, upd_ne h1]
        by_cases h2 : b = a
        · rw [h2, del_same, hna]
        · rw [del_ne h2, upd_ne h2, upd_ne h1, upd_ne h2]
    rw [e]
    exact q dx hd
end
end Mine
set_option Elab.async false
set_option linter.all false
set_option maxRecDepth 100000
set_option maxHeartbeats 2000000
/-! Rules of my own over the hand layer: operators, ==, str of own instances; a call that makes an instance within a try; isinstance of a held error with several classes. -/
namespace Mine
open PySem PySem.Spec PyProof.Rows L2
section
variable {X : Cx} {CX : CXT} {C f : Addr} {fd : FuncData} {ps : List Str} {sp : Sp} {E : XK} {n : Nat}

/-- a binary operator of two instances of one class -/
def rOwn (C : Addr) (sp : Sp) (E : XK) : R2 := fun x y H Q => ∃ a b dx dy fs gs, x = .ref a ∧ y = .ref b ∧ H a = some (.ins C dx fs) ∧ H b = some (.ins C dy gs) ∧ sp [.ref a, .ref b] H Q E
theorem op_own {op : Operator} (F : FnOk X.prog X.w X.K X.mg X.base CX n f fd ps sp) (hr : Room n X.A) (hb : Binds X.K fd ps []) (hx : Passes CX X E)
    (hc : PySem.W.selfFirst X.K C = true) (hs : PySem.W.findIn X.K (.ref C) (PySem.dunder op.info.2) = some (some (.ref f))) (hf : PySem.W.isFn X.K (.ref f) = true) : OpR X (binaryOp op) (rOwn C sp E) := by
  intro pins s σ H x y v u Q I rx ry h
  obtain ⟨a, b, dx, dy, fs, gs, rfl, rfl, ha, hb', q⟩ := h
  cases rx
  cases ry
  obtain ⟨mA, J, _⟩ := ins_get I.hok ha
  obtain ⟨mB, J', _⟩ := ins_get I.hok hb'
  obtain ⟨od, J, _⟩ := J.look
  obtain ⟨od', J', _⟩ := J'.look
  obtain ⟨m, hF⟩ := I.fr
  refine PySem.W.binop_K hF I.ok.mod.kin J J'.type hc hs hf ?_
  have r2 : Vals [V.ref a, V.ref b] [Value.ref a, Value.ref b] := .cons rfl (.cons rfl .nil)
  refine wpAny_mono (run_fn (dvs := []) (ds := []) F hr hb .nil hx I r2 (by simpa using q)) (fun v s' hv => ?_) fun _ _ z => z
  obtain ⟨z, H', I', rz, q'⟩ := hv
  exact SlX.cmpback rz ⟨z, H', I', rz, q'⟩

/-- == of two instances of one class with an own __eq__ -/
theorem op_ownEq (F : FnOk X.prog X.w X.K X.mg X.base CX n f fd ps sp) (hr : Room n X.A) (hb : Binds X.K fd ps []) (hx : Passes CX X E)
    (hs : PySem.W.findIn X.K (.ref C) "__eq__" = some (some (.ref f))) (hf : PySem.W.isFn X.K (.ref f) = true) : OpR X (compareOp .Eq) (rOwn C sp E) := by
  intro pins s σ H x y v u Q I rx ry h
  obtain ⟨a, b, dx, dy, fs, gs, rfl, rfl, ha, hb', q⟩ := h
  cases rx
  cases ry
  obtain ⟨mA, J, _⟩ := ins_get I.hok ha
  obtain ⟨mB, J', _⟩ := ins_get I.hok hb'
  obtain ⟨od, J, _⟩ := J.look
  obtain ⟨od', J', _⟩ := J'.look
  obtain ⟨m, hF⟩ := I.fr
  show wpAny (model X.prog X.w) X.A (richCompare .Eq _ _) (EP X pins σ Q) X.xe s
  refine PySem.W.cmp_K (op := .Eq) (tb := .ref C) hr.units0 hF I.ok.mod.kin J J'.type (by simp [PySem.W.notFirst]) hs hf ?_
  have r2 : Vals [V.ref a, V.ref b] [Value.ref a, Value.ref b] := .cons rfl (.cons rfl .nil)
  refine wpAny_mono (run_fn (dvs := []) (ds := []) F hr hb .nil hx I r2 (by simpa using q)) (fun v s' hv => ?_) fun _ _ z => z
  obtain ⟨z, H', I', rz, q'⟩ := hv
  exact SlX.cmpback rz ⟨z, H', I', rz, q'⟩

theorem strback {P : Value → Shared → Prop} {z : Str} {v : Value} {s' : Shared} (r : RelV (.str z) v) (h : P v s') : PySem.W.StrBack P v s' := by
  obtain ⟨t, rfl⟩ := r
  exact h
/-- str(x) of an instance with an own __str__ -/
def rStrOwn (C : Addr) (sp : Sp) (E : XK) : List V → Hp → VK → Prop := fun xs H Q => ∃ a dx fs, xs = [.ref a] ∧ H a = some (.ins C dx fs) ∧ sp [.ref a] H (fun v H' => ∃ z, v = .str z ∧ Q (.str z) H') E
theorem call_strOwn (F : FnOk X.prog X.w X.K X.mg X.base CX n f fd ps sp) (hr : Room (n + 2) X.A) (hb : Binds X.K fd ps []) (hx : Passes CX X E)
    (hs : PySem.W.findIn X.K (.ref C) "__str__" = some (some (.ref f))) (hf : PySem.W.isFn X.K (.ref f) = true) : CallR X (.type "str") (rStrOwn C sp E) := by
  intro pins s σ H xs us Q I r h
  obtain ⟨a, dx, fs, rfl, ha, q⟩ := h
  obtain ⟨u, rfl, ru⟩ := vals1 r
  cases ru
  obtain ⟨mA, J, _⟩ := ins_get I.hok ha
  obtain ⟨od, J, _⟩ := J.look
  have hr2 : Room n X.A.in1.in1 := hr.in1.in1
  refine PySem.W.kso_call hr2.units0 I.kIn J hs hf ?_
  have e0 : Env0 X.prog X.w X.K X.mg X.base X.A.in1.in1 X.stack s H := by
    have e := I.env0
    exact ⟨e.frames, e.mod, e.bs, e.bsz, e.funs, e.frf, e.hok, e.bare⟩
  have hl := F.len _ _ _ _ q
  have r2 : Vals [V.ref a] [Value.ref a] := .cons rfl .nil
  refine wpAny_call (codeAny_mono (F.run _ X.stack s H ⟨[.ref a], []⟩ [.ref a] [.ref a] _ E hr2 e0 (by
    have := hb s [.ref a] I.kIn (by simpa using hl)
    simpa using this) r2 q) fun r s' hq => ?_)
  cases r with
  | error e => exact hx pins σ H s e s' I hq
  | ok fl =>
    cases fl with
    | ret w =>
      obtain ⟨z, H', I', rz, z', ez, q'⟩ := I.after hq
      subst ez
      exact strback rz ⟨.str z', H', I', rz, q'⟩
    | next => exact False.elim hq
    | brk => exact False.elim hq
    | cont => exact False.elim hq
end

/-! ### C(e, ..) that may raise, within a try body -/
section
variable {X : Cx} {CX : CXT} {k : Nat} {f C : Addr} {fd : FuncData} {ps : List Str} {sp : Sp} {E : L2.St → XK} {x : Str} {p pos : Pos} {e : Expr} {es : List Expr} {t : TA}
theorem run_makeS {pins : List (Addr × Obj)} {σ : L2.St} {H : Hp} {s : Shared} {Q : VK} {us : List Value} {vs : List V} (M : Mk X.K C f) (F : FnOk X.prog X.w X.K X.mg X.base CX k f fd ps sp) (hr : Room (k + 1) X.A) (hb : Binds X.K fd ps [])
    (hx : PassesAt CX X σ (E σ)) (I : Inv X pins σ H s) (r : Vals vs us)
    (h : ∀ x dx, H x = none → H dx = none → dx ≠ x → sp (.ref x :: vs) (upd (upd H dx (.own x)) x (.ins C dx [])) (fun v H2 => v = .non ∧ Q (.ref x) H2) (E σ)) :
    wpAny (model X.prog X.w) X.A (call (.ref C) us) (EP X pins σ Q) X.xe s := by
  have hq := h (s.heap.objs.size + 1) s.heap.objs.size (I.hok.fresh (Nat.le_succ _)) (I.hok.fresh (Nat.le_refl _)) (Nat.ne_of_lt (Nat.lt_succ_self _))
  have I2 := Inv.made (C := C) I
  have r2 : Vals (V.ref (s.heap.objs.size + 1) :: vs) (Value.ref (s.heap.objs.size + 1) :: us) := .cons rfl r
  have hl : (Value.ref (s.heap.objs.size + 1) :: us ++ []).length = ps.length := by
    have e := r2.length
    rw [F.len _ _ _ _ hq] at e
    rw [List.append_nil]
    exact e.symm
  refine wpAny_call ((make_map (f := f) I.kIn M.makes M.init (beq_iff_eq.mp M.fn) (codeAny_mono (F.run _ X.stack _ _ ⟨Value.ref (s.heap.objs.size + 1) :: us, []⟩ (Value.ref (s.heap.objs.size + 1) :: us) _ _ (E σ) (hr.make C us [])
    (I2.env0.make C us []) (by have z := hb _ (Value.ref (s.heap.objs.size + 1) :: us) I2.kIn hl; rw [List.append_nil] at z; exact z) r2 hq) fun r s' hq' => ?_)))
  cases r with
  | error e => exact hx pins _ _ e s' I2 hq'
  | ok fl =>
    cases fl with
    | ret u =>
      obtain ⟨v, H', I3, rv, ev, q3⟩ := I2.after hq'
      subst ev
      exact ⟨rv, ⟨V.ref (s.heap.objs.size + 1), H', I3, rfl, q3⟩⟩
    | next => exact False.elim hq'
    | brk => exact False.elim hq'
    | cont => exact False.elim hq'
end
/-- C(e, ..) within a try body -/
def tMakeS (C : Addr) (sp : Sp) (E : L2.St → XK) (t : TA) : TE := fun σ H Q => t σ H fun vs H1 => ∀ x dx, H1 x = none → H1 dx = none → dx ≠ x →
  sp (.ref x :: vs) (upd (upd H1 dx (.own x)) x (.ins C dx [])) (fun v H2 => v = .non ∧ Q (.ref x) H2) (E σ)
section
variable {X : Cx} {CX : CXT} {k : Nat} {f C : Addr} {fd : FuncData} {ps : List Str} {sp : Sp} {E : L2.St → XK} {x : Str} {p pos : Pos} {e : Expr} {es : List Expr} {t : TA}
theorem pe_makeS (M : Mk X.K C f) (F : FnOk X.prog X.w X.K X.mg X.base CX k f fd ps sp) (hr : Room (k + 1) X.A) (hg : Gl X x) (hm : X.mg x = some (.ref C)) (hb : L2.Binds X.K fd ps []) (hx : ∀ σ, PassesAt CX X σ (E σ))
    (ha : PA X (e :: es) t) (hdb : (x == ("__debug__" : Str)) = false := by decide) (he : starEach (e :: es) X.env = (false, eval e X.env) :: starEach es X.env := by rfl) (hpl : (backTo pos (starEach es X.env)).any (·.1) = false := by rfl) :
    PE X (.Call (.Name x p) (e :: es) [] pos) (tMakeS C sp E t) := by
  refine ⟨fun pins s σ H Q I h => ?_⟩
  refine wpAny_Call_Name_kw (ld_glob I hg hm ?_ hdb)
  refine PySem.W.callWith_K (h₀ := X.base) I.ok.mod.kin M.kp (thn (ha.run pos pins s σ H _ I h) fun us s1 ⟨vs, H1, I1, r, q⟩ => ⟨I1.kIn, ?_⟩) he hpl
  exact run_makeS M F hr hb (hx σ) I1 r q
end

/-! ### isinstance of the error that a suite holds -/
def rIsE1 (K : PySem.W.Frag) (D a : Addr) (cls : Value) (d : Option Addr) : List V → Hp → VK → Prop := fun xs H Q => ∃ (c : V) (cv : Value) (b : Bool), xs = [.ref a, c] ∧ cls = .ref D ∧ d = none ∧ (∀ u, RelV c u → u = cv) ∧ PySem.W.kitOne K (.ref D) cv = some b ∧ Q (.bl b) H
def rIsET (K : PySem.W.Frag) (D a : Addr) (cls : Value) (d : Option Addr) : List V → Hp → VK → Prop := fun xs H Q => ∃ (tp : Addr) (cs : List V) (us : List Value) (b : Bool), xs = [.ref a, .ref tp] ∧ cls = .ref D ∧ d = none ∧ H tp = some (.tup cs) ∧ Paired ClsV cs us ∧ PySem.W.kitAny K (.ref D) us = some b ∧ Q (.bl b) H
section
variable {X : Cx} {a D : Addr} {oe : Obj} {pn : List (Addr × Obj)} {cls : Value} {d : Option Addr}
theorem call_isE1 (C : ExcC X.K D) (hz : Zc cls d oe) (hf : ∃ vs, oe.data = .fields vs) : CallR (X.suite a ((a, oe) :: pn)) (.builtin "isinstance") (rIsE1 X.K D a cls d) := by
  intro pins s σ H xs us Q I r h
  obtain ⟨c, cv, b, e1, rfl, rfl, hcv, e, q⟩ := h
  exact call_isE C hz hf pins s σ H xs us Q I r ⟨c, cv, b, e1, hcv, e, q⟩
theorem call_isET (C : ExcC X.K D) (hz : Zc cls d oe) (hf : ∃ vs, oe.data = .fields vs) : CallR (X.suite a ((a, oe) :: pn)) (.builtin "isinstance") (rIsET X.K D a cls d) := by
  intro pins s σ H xs us Q I r h
  obtain ⟨tp, cs, ws, b, rfl, rfl, rfl, hT, k, e, q⟩ := h
  obtain ⟨u1, u2, rfl, r1, r2⟩ := vals2 r
  cases (show u1 = Value.ref a from r1)
  cases (show u2 = Value.ref tp from r2)
  obtain ⟨hget, _⟩ := I.pin (a, oe) (List.mem_append.mpr (.inl List.mem_cons_self))
  obtain ⟨vs, hv⟩ := hf
  have J : PySem.W.InstAt s.heap a oe D none := by
    obtain ⟨oc, od, oda, osl⟩ := oe
    obtain ⟨h1, h2⟩ := hz
    dsimp only at h1 h2 hv
    subst h1 h2 hv
    exact ⟨hget, rfl, rfl, trivial⟩
  obtain ⟨_, its, rv, o, h1, h2, n, h3⟩ := (show ObjOk X.prog X.w H s.heap tp (.tup cs) from I.hok tp _ hT)
  have e3 := ClsV.all k rv
  subst e3
  obtain ⟨oc, od, dt, sl⟩ := o
  simp only at h2 h3
  subst h2 h3
  exact PySem.W.kia_tup (PySem.W.handS_kitx_exc C.hg C.hk C.hs C.hd C.ha C.hn C.ht C.hm) I.kIn J h1 e (fun z => nomatch z) fun tk => ⟨.bl b, H, I.kept (t' := tk) fun _ _ z => z, rfl, q⟩
end

/-! ### small words -/
theorem same_new {H : Hp} {p : Addr} (h : H p = none) (o : HO) : Same H (upd H p o) := fun b u q => by rw [upd_ne (ne_of_none q h)]; exact q
theorem same_make {H : Hp} {x dx C : Addr} (nx : H x = none) (nd : H dx = none) : Same H (upd (upd H dx (.own x)) x (.ins C dx [])) := fun b o e => by
  rw [upd_ne (ne_of_none e nx), upd_ne (ne_of_none e nd)]
  exact e
theorem ite_no {c A B : Prop} [Decidable c] (hc : ¬ c) (h : B) : if c then A else B := by rw [if_neg hc]; exact h
theorem ite_yes {c A B : Prop} [Decidable c] (hc : c) (h : A) : if c then A else B := by rw [if_pos hc]; exact h
end Mine
set_option Elab.async false
set_option linter.all false
set_option maxRecDepth 100000
set_option maxHeartbeats 2000000
/-! Games as data: expressions, statements, blocks, games; how they stand in the heap. -/
namespace Gm
open PySem L2
/-! ### data that stands keeps standing -/
theorem same_new {H : Hp} {p : Addr} (h : H p = none) (o : HO) : Same H (upd H p o) := fun b u q => by rw [upd_ne (ne_of_none q h)]; exact q
theorem sqT_mono {K : PySem.W.Frag} {H H' : Hp} {a : Addr} {xs : List V} (e : Same H H') (h : SqT K H a xs) : SqT K H' a xs := by
  rcases h with (h | ⟨o, h⟩) | h
  · exact .inl (.inl (e _ _ h))
  · exact .inl (.inr ⟨o, e _ _ h⟩)
  · exact .inr h
mutual
theorem dp_mono {K : PySem.W.Frag} {H H' : Hp} (s : Same H H') : ∀ (d : PyData) (v : V), Dp K H v d → Dp K H' v d
  | .none, _, h => by cases h; exact .non
  | .bool b, _, h => by cases h; exact .bl b
  | .int i, _, h => by cases h; exact .int i
  | .str x, _, h => by cases h; exact .str x
  | .list ds, _, h => by
    cases h with
    | lst hs ha => exact .lst (s.seq hs) (dp_monoAll s ds _ ha)
  | .tuple ds, _, h => by
    cases h with
    | tup hs ha => exact .tup (sqT_mono s hs) (dp_monoAll s ds _ ha)
  | .dict _, _, h => by cases h
theorem dp_monoAll {K : PySem.W.Frag} {H H' : Hp} (s : Same H H') : ∀ (ds : List PyData) (vs : List V), DpAll K H vs ds → DpAll K H' vs ds
  | [], _, h => by cases h; exact .nil
  | d :: ds, _, h => by
    cases h with
    | cons h1 h2 => exact .cons (dp_mono s d _ h1) (dp_monoAll s ds _ h2)
end
section
variable {K : PySem.W.Frag} {H : Hp}
theorem DpAll.len : ∀ {vs : List V} {ds : List PyData}, DpAll K H vs ds → vs.length = ds.length
  | _, _, .nil => rfl
  | _, _, .cons _ t => congrArg Nat.succ (DpAll.len t)
theorem DpAll.app : ∀ {vs ws : List V} {ds es : List PyData}, DpAll K H vs ds → DpAll K H ws es → DpAll K H (vs ++ ws) (ds ++ es)
  | _, _, _, _, .nil, q => q
  | _, _, _, _, .cons h t, q => .cons h (DpAll.app t q)
theorem DpAll.get : ∀ {vs : List V} {ds : List PyData} {i : Nat} {d : PyData}, DpAll K H vs ds → ds[i]? = some d → ∃ v, vs[i]? = some v ∧ Dp K H v d
  | _, _, _, _, .nil, e => by simp at e
  | _, _, 0, _, .cons h _, e => by simp at e; subst e; exact ⟨_, rfl, h⟩
  | _, _, i + 1, _, .cons _ t, e => by
    obtain ⟨v, h1, h2⟩ := DpAll.get (i := i) t (by simpa using e)
    exact ⟨v, by simpa using h1, h2⟩
theorem dp_strs : ∀ xs : List Str, DpAll K H (xs.map V.str) (xs.map PyData.str)
  | [] => .nil
  | x :: xs => .cons (.str x) (dp_strs xs)
/-- a new tuple of data -/
theorem dp_tup {p : Addr} {vs : List V} {ds : List PyData} (hp : H p = none) (h : DpAll K H vs ds) : Dp K (upd H p (.tup vs)) (.ref p) (.tuple ds) := .tup (SqT.of upd_same) (dp_monoAll (same_new hp _) _ _ h)
end
/-! ### rules whose written part is named (within comprehensions) -/
section
variable {X : Cx}
theorem ixlK (K : PySem.W.Frag) (h : X.K = K) : IxR X (rIxL K) := by subst h; exact ix_list
theorem ixtK (K : PySem.W.Frag) (h : X.K = K) : IxR X (rIxT K) := by subst h; exact ix_tup
theorem lenK (K : PySem.W.Frag) (h : X.K = K) : CallR X (.builtin "len") (fun xs H Q => ∃ p ys, xs = [.ref p] ∧ (SqL K H p ys ∨ SqT K H p ys) ∧ Q (.int ys.length) H) := by subst h; exact call_len_seq
theorem inK (K : PySem.W.Frag) (h : X.K = K) : OpR X (compareOp .In) (rIn K false) := by subst h; exact op_in_seq
theorem eqDK (K : PySem.W.Frag) (h : X.K = K) (hu : X.A.units + 64 < cLine) : OpR X (compareOp .Eq) (rEqD K) := by subst h; exact op_eqD hu
theorem neDK (K : PySem.W.Frag) (h : X.K = K) (hu : X.A.units + 64 < cLine) : OpR X (compareOp .NotEq) (rNeD K) := by subst h; exact op_neD hu
theorem slLK (K : PySem.W.Frag) (h : X.K = K) : SlR X (rSlL K) := by subst h; exact sl_list
theorem slTK (K : PySem.W.Frag) (h : X.K = K) : SlR X (rSlA K) := by subst h; exact sl_tupA
end
/-! ### data without lists: it stands as long as the tuples stand -/
mutual
def nol : PyData → Bool
  | .list _ => false
  | .dict _ => false
  | .tuple ds => nolAll ds
  | _ => true
def nolAll : List PyData → Bool
  | [] => true
  | d :: ds => nol d && nolAll ds
end
theorem nolAll_app : ∀ (xs ys : List PyData), nolAll (xs ++ ys) = (nolAll xs && nolAll ys)
  | [], ys => by show nolAll ys = (nolAll [] && nolAll ys); unfold nolAll; rw [Bool.true_and]; all_goals rfl
  | x :: xs, ys => by show (nol x && nolAll (xs ++ ys)) = ((nol x && nolAll xs) && nolAll ys); rw [nolAll_app xs ys, Bool.and_assoc]
theorem nolAll_strs : ∀ xs : List Str, nolAll (xs.map PyData.str) = true
  | [] => rfl
  | x :: xs => by show (nol (.str x) && nolAll (xs.map PyData.str)) = true; rw [nolAll_strs xs]; rfl
/-- tuples and what is locked stand -/
def Tups (H H' : Hp) : Prop := ∀ b o, H b = some o → ((∃ xs, o = .tup xs) ∨ ∃ ob u, o = .frz ob u) → H' b = some o
theorem Tups.of {H H' : Hp} (s : Same H H') : Tups H H' := fun b o e _ => s b o e
theorem Tups.refl (H : Hp) : Tups H H := fun _ _ e _ => e
theorem Tups.trans {H H1 H2 : Hp} (a : Tups H H1) (b : Tups H1 H2) : Tups H H2 := fun c o e k => b c o (a c o e k) k
theorem Tups.lst {H : Hp} {l : Addr} {xs : List V} {o : HO} (h : H l = some (.lst xs)) : Tups H (upd H l o) := fun b u e k => by
  rw [upd_ne]
  · exact e
  · intro z
    subst z
    rw [h] at e
    cases e
    rcases k with ⟨_, z⟩ | ⟨_, _, z⟩ <;> cases z
theorem sqT_tups {K : PySem.W.Frag} {H H' : Hp} {a : Addr} {xs : List V} (e : Tups H H') (h : SqT K H a xs) : SqT K H' a xs := by
  rcases h with (h | ⟨o, h⟩) | h
  · exact .inl (.inl (e _ _ h (.inl ⟨_, rfl⟩)))
  · exact .inl (.inr ⟨o, e _ _ h (.inr ⟨_, _, rfl⟩)⟩)
  · exact .inr h
mutual
theorem dp_tups {K : PySem.W.Frag} {H H' : Hp} (s : Tups H H') : ∀ (d : PyData) (v : V), nol d = true → Dp K H v d → Dp K H' v d
  | .none, _, _, h => by cases h; exact .non
  | .bool b, _, _, h => by cases h; exact .bl b
  | .int i, _, _, h => by cases h; exact .int i
  | .str x, _, _, h => by cases h; exact .str x
  | .list ds, _, n, h => by unfold nol at n; cases n
  | .tuple ds, _, n, h => by
    unfold nol at n
    cases h with
    | tup hs ha => exact .tup (sqT_tups s hs) (dp_tupsAll s ds _ n ha)
  | .dict _, _, _, h => by cases h
theorem dp_tupsAll {K : PySem.W.Frag} {H H' : Hp} (s : Tups H H') : ∀ (ds : List PyData) (vs : List V), nolAll ds = true → DpAll K H vs ds → DpAll K H' vs ds
  | [], _, _, h => by cases h; exact .nil
  | d :: ds, _, n, h => by
    unfold nolAll at n
    rw [Bool.and_eq_true] at n
    cases h with
    | cons h1 h2 => exact .cons (dp_tups s d _ n.1 h1) (dp_tupsAll s ds _ n.2 h2)
end
/-! ### expressions and statements -/
inductive Ex where
  | num (n : Int) | loc (x : Str) | var (x : Str) | has (t : Str) (e : Ex) | cell (t : Str) (e : Ex) | op (o : Str) (a b : Ex)
mutual
inductive Stm where
  | set (x : Str) (e : Ex) | lt (l : Str) (e : Ex) | draw (l : Str) (n : Int) | put (t : Str) (e f : Ex) | lot (l o : Str) (e : Ex) | ask (l p : Str) (e : Ex) | ite (e : Ex) (a b : Blk) | bad | after (a : Blk)
inductive Blk where
  | nil | cons (s : Stm) (r : Blk)
end
def Ex.d : Ex → PyData
  | .num n => .tuple [.str "number", .int n]
  | .loc x => .tuple [.str "local", .str x]
  | .var x => .tuple [.str "variable", .str x]
  | .has t e => .tuple [.str "has", .str t, e.d]
  | .cell t e => .tuple [.str "cell", .str t, e.d]
  | .op o a b => .tuple [.str o, a.d, b.d]
mutual
def Stm.d : Stm → PyData
  | .set x e => .tuple [.str "set", .str x, e.d]
  | .lt l e => .tuple [.str "let", .str l, e.d]
  | .draw l n => .tuple [.str "draw", .str l, .int n]
  | .put t e f => .tuple [.str "put", .str t, e.d, f.d]
  | .lot l o e => .tuple [.str "lot", .str l, .str o, e.d]
  | .ask l p e => .tuple [.str "ask", .str l, .str p, e.d]
  | .ite e a b => .tuple [.str "if", e.d, .tuple a.ds, .tuple b.ds]
  | .bad => .tuple [.str "bad"]
  | .after a => .tuple [.str "after", .tuple a.ds]
def Blk.ds : Blk → List PyData
  | .nil => []
  | .cons s r => s.d :: r.ds
end
def Blk.d (b : Blk) : PyData := .tuple b.ds
theorem Ex.nol : ∀ e : Ex, nol e.d = true
  | .num n => rfl
  | .loc x => rfl
  | .var x => rfl
  | .has t e => by show (Gm.nol (.str "has") && (Gm.nol (.str t) && (Gm.nol e.d && nolAll []))) = true; rw [Ex.nol e]; rfl
  | .cell t e => by show (Gm.nol (.str "cell") && (Gm.nol (.str t) && (Gm.nol e.d && nolAll []))) = true; rw [Ex.nol e]; rfl
  | .op o a b => by show (Gm.nol (.str o) && (Gm.nol a.d && (Gm.nol b.d && nolAll []))) = true; rw [Ex.nol a, Ex.nol b]; rfl
mutual
theorem Stm.nol : ∀ x : Stm, nol x.d = true
  | .set x e => by unfold Stm.d; show (Gm.nol (.str "set") && (Gm.nol (.str x) && (Gm.nol e.d && nolAll []))) = true; rw [Ex.nol e]; rfl
  | .lt x e => by unfold Stm.d; show (Gm.nol (.str "let") && (Gm.nol (.str x) && (Gm.nol e.d && nolAll []))) = true; rw [Ex.nol e]; rfl
  | .draw l n => by unfold Stm.d; rfl
  | .put t e f => by unfold Stm.d; show (Gm.nol (.str "put") && (Gm.nol (.str t) && (Gm.nol e.d && (Gm.nol f.d && nolAll [])))) = true; rw [Ex.nol e, Ex.nol f]; rfl
  | .lot l o e => by unfold Stm.d; show (Gm.nol (.str "lot") && (Gm.nol (.str l) && (Gm.nol (.str o) && (Gm.nol e.d && nolAll [])))) = true; rw [Ex.nol e]; rfl
  | .ask l p e => by unfold Stm.d; show (Gm.nol (.str "ask") && (Gm.nol (.str l) && (Gm.nol (.str p) && (Gm.nol e.d && nolAll [])))) = true; rw [Ex.nol e]; rfl
  | .ite e a b => by unfold Stm.d; show (Gm.nol (.str "if") && (Gm.nol e.d && (nolAll a.ds && (nolAll b.ds && nolAll [])))) = true; rw [Ex.nol e, Blk.nol a, Blk.nol b]; rfl
  | .bad => by unfold Stm.d; rfl
  | .after a => by unfold Stm.d; show (Gm.nol (.str "after") && (nolAll a.ds && nolAll [])) = true; rw [Blk.nol a]; rfl
theorem Blk.nol : ∀ b : Blk, nolAll b.ds = true
  | .nil => by unfold Blk.ds; rfl
  | .cons s r => by unfold Blk.ds; show (Gm.nol s.d && nolAll r.ds) = true; rw [Stm.nol s, Blk.nol r]; rfl
end
def Blk.of : List Stm → Blk
  | [] => .nil
  | s :: r => .cons s (Blk.of r)
def Blk.app : Blk → Blk → Blk
  | .nil, c => c
  | .cons s r, c => .cons s (r.app c)
theorem Blk.ds_app : ∀ (b c : Blk), (b.app c).ds = b.ds ++ c.ds
  | .nil, c => by rw [Blk.app, Blk.ds]; rfl
  | .cons s r, c => by rw [Blk.app, Blk.ds, Blk.ds, Blk.ds_app r c]; rfl
def Ex.dep : Ex → Nat
  | .num _ => 1
  | .loc _ => 1
  | .var _ => 1
  | .has _ e => e.dep + 1
  | .cell _ e => e.dep + 1
  | .op _ a b => max a.dep b.dep + 1
/-! the depth of ifs and afters, 0 without -/
mutual
def Stm.dep : Stm → Nat
  | .ite _ a b => max a.dep b.dep + 1
  | .after a => a.dep + 1
  | _ => 0
def Blk.dep : Blk → Nat
  | .nil => 0
  | .cons s r => max s.dep r.dep
end
def ops : List Str := ["+", "-", "*", "/", "mod", "<", "="]
/-- the names in scope -/
structure Sc where
  locs : List Str
  vars : List Str
  tabs : List Str
  lots : List Str
  asks : List Str
/-- an expression over the names of a scope, at most k deep -/
def Ex.Ok (s : Sc) : Nat → Ex → Prop
  | 0, _ => False
  | _ + 1, .num n => 0 ≤ n ∧ n ≤ 65535
  | _ + 1, .loc x => x ∈ s.locs
  | _ + 1, .var x => x ∈ s.vars
  | k + 1, .has t e => t ∈ s.tabs ∧ e.Ok s k
  | k + 1, .cell t e => t ∈ s.tabs ∧ e.Ok s k
  | k + 1, .op o a b => o ∈ ops ∧ a.Ok s k ∧ b.Ok s k
theorem Ex.Ok.mono {s : Sc} : ∀ {k j : Nat} {e : Ex}, e.Ok s k → k ≤ j → e.Ok s j
  | 0, _, _, h, _ => h.elim
  | _ + 1, 0, _, _, hj => absurd hj (by omega)
  | _ + 1, _ + 1, .num _, h, _ => h
  | _ + 1, _ + 1, .loc _, h, _ => h
  | _ + 1, _ + 1, .var _, h, _ => h
  | k + 1, j + 1, .has _ _, h, hj => ⟨h.1, h.2.mono (by omega)⟩
  | k + 1, j + 1, .cell _ _, h, hj => ⟨h.1, h.2.mono (by omega)⟩
  | k + 1, j + 1, .op _ _ _, h, hj => ⟨h.1, h.2.1.mono (by omega), h.2.2.mono (by omega)⟩
/-! a statement over a scope: expressions at most k deep, ifs and afters at most d deep -/
mutual
def Stm.Ok (s : Sc) (k : Nat) : Nat → Stm → Prop
  | _, .set x e => x ∈ s.vars ∧ e.Ok s k
  | _, .lt l e => l ∈ s.locs ∧ e.Ok s k
  | _, .draw l n => l ∈ s.locs ∧ 1 ≤ n ∧ n ≤ 64
  | _, .put t e f => t ∈ s.tabs ∧ e.Ok s k ∧ f.Ok s k
  | _, .lot l o e => l ∈ s.locs ∧ o ∈ s.lots ∧ e.Ok s k
  | _, .ask l p e => l ∈ s.locs ∧ p ∈ s.asks ∧ e.Ok s k
  | 0, .ite _ _ _ => False
  | d + 1, .ite e a b => e.Ok s k ∧ a.Ok s k d ∧ b.Ok s k d
  | _, .bad => True
  | 0, .after _ => False
  | d + 1, .after a => a.Ok s k d
def Blk.Ok (s : Sc) (k : Nat) : Nat → Blk → Prop
  | _, .nil => True
  | d, .cons x r => x.Ok s k d ∧ r.Ok s k d
end
def Blk.len : Blk → Nat
  | .nil => 0
  | .cons _ r => r.len + 1
theorem Blk.len_ds : ∀ b : Blk, b.ds.length = b.len
  | .nil => by rw [Blk.ds]; rfl
  | .cons s r => by rw [Blk.ds, Blk.len, List.length_cons, Blk.len_ds r]
theorem Blk.len_app : ∀ (b c : Blk), (b.app c).len = b.len + c.len
  | .nil, c => by rw [Blk.app, Blk.len, Nat.zero_add]
  | .cons s r, c => by rw [Blk.app, Blk.len, Blk.len, Blk.len_app r c]; omega
theorem Blk.ok_app {s : Sc} {k d : Nat} : ∀ {b c : Blk}, b.Ok s k d → c.Ok s k d → (b.app c).Ok s k d
  | .nil, c, _, h => by rw [Blk.app]; exact h
  | .cons x r, c, h1, h2 => by
    rw [Blk.app]
    unfold Blk.Ok at h1 ⊢
    exact ⟨h1.1, Blk.ok_app h1.2 h2⟩
/-! ### picks -/
theorem pick_mem {xs : List Str} {r : Int} (h : xs ≠ []) : ∃ x ∈ xs, atI (xs.map V.str) (r % (((xs.map V.str).length : Nat) : Int)) = some (.str x) := by
  have hl : 0 < xs.length := List.length_pos_iff.mpr h
  rw [List.length_map]
  have h0 := Int.emod_nonneg r (by omega : (xs.length : Int) ≠ 0)
  have h1 := Int.emod_lt_of_pos r (by omega : (0 : Int) < xs.length)
  have hk : (r % (xs.length : Int)).toNat < xs.length := by omega
  refine ⟨xs[(r % (xs.length : Int)).toNat], List.getElem_mem hk, ?_⟩
  exact at_of (j := (r % (xs.length : Int)).toNat) (by omega) (by rw [List.getElem?_map, List.getElem?_eq_getElem hk] <;> rfl)
theorem len_pos {xs : List Str} (h : xs ≠ []) : (0 : Int) < (((xs.map V.str).length : Nat) : Int) := by
  rw [List.length_map]
  have := List.length_pos_iff.mpr h
  omega
/-- an item of a written display, whatever the rest -/
theorem pick_disp {vs : List V} {r : Int} {n : Nat} (hn : vs.length = n) (h : 0 < n) : ∃ x ∈ vs, atI vs (r % (n : Int)) = some x := by
  subst hn
  have h0 := Int.emod_nonneg r (by omega : (vs.length : Int) ≠ 0)
  have h1 := Int.emod_lt_of_pos r (by omega : (0 : Int) < vs.length)
  have hk : (r % (vs.length : Int)).toNat < vs.length := by omega
  exact ⟨vs[(r % (vs.length : Int)).toNat], List.getElem_mem hk, at_of (j := (r % (vs.length : Int)).toNat) (by omega) (List.getElem?_eq_getElem hk)⟩
theorem pick_op {r : Int} : ∃ o ∈ ops, atI ([.str "+", .str "-", .str "*", .str "/", .str "mod", .str "<", .str "="] : List V) (r % 7) = some (.str o) := by
  obtain ⟨x, hx, e⟩ := pick_mem (xs := ops) (r := r) (by decide)
  exact ⟨x, hx, e⟩
theorem pick_two {a b : V} {r : Int} : atI ([a, b] : List V) (r % 2) = some a ∨ atI ([a, b] : List V) (r % 2) = some b := by
  have h0 := Int.emod_nonneg r (by decide : (2 : Int) ≠ 0)
  have h1 := Int.emod_lt_of_pos r (by decide : (0 : Int) < 2)
  have : r % 2 = 0 ∨ r % 2 = 1 := by omega
  rcases this with e | e
  · rw [e]; exact .inl rfl
  · rw [e]; exact .inr rfl
theorem and_if {c A B T1 : Prop} [Decidable c] (hB : B) (hT : c → B → T1) : if c then T1 else (if false = true then A else B) := by
  by_cases h : c
  · rw [if_pos h]; exact hT h hB
  · rw [if_neg h, if_neg Bool.false_ne_true]; exact hB
theorem ne_of_len {xs : List Str} (h : decide ((0 : Int) < (((xs.map V.str).length : Nat) : Int)) = true) : xs ≠ [] := by
  intro e
  subst e
  exact absurd (of_decide_eq_true h) (by decide)
/-- an if without an else: what holds behind it, both ways -/
theorem if_rest {b A : Prop} [Decidable b] {D : Ends} {σ : L2.St} {H : Hp} (I : L2.St → Hp → Prop) (rest : ∀ σ H, I σ H → D.nx σ H) (ht : b → (∀ σ H, I σ H → D.nx σ H) → A) (he : ¬ b → I σ H) : if b then A else tNext D σ H := by
  by_cases h : b
  · rw [if_pos h]; exact ht h rest
  · rw [if_neg h]; exact rest σ H (he h)
theorem Blk.ok_nil {s : Sc} {k d : Nat} : Blk.nil.Ok s k d := by unfold Blk.Ok; trivial
theorem Blk.ok_cons {s : Sc} {k d : Nat} {x : Stm} {r : Blk} (h : x.Ok s k d) (hr : r.Ok s k d) : (Blk.cons x r).Ok s k d := by unfold Blk.Ok; exact ⟨h, hr⟩
theorem Stm.ok_ite {s : Sc} {k d : Nat} {e : Ex} {a b : Blk} (h : e.Ok s k) (ha : a.Ok s k d) (hb : b.Ok s k d) : (Stm.ite e a b).Ok s k (d + 1) := by unfold Stm.Ok; exact ⟨h, ha, hb⟩
theorem Stm.ok_after {s : Sc} {k d : Nat} {a : Blk} (ha : a.Ok s k d) : (Stm.after a).Ok s k (d + 1) := by unfold Stm.Ok; exact ha
theorem Stm.ok_bad {s : Sc} {k d : Nat} : Stm.bad.Ok s k d := by cases d <;> (unfold Stm.Ok; trivial)
mutual
theorem Stm.ok_mono {s : Sc} {k : Nat} : ∀ {d e : Nat} {x : Stm}, x.Ok s k d → d ≤ e → x.Ok s k e
  | d, e, .set _ _, h, _ => by unfold Stm.Ok at h ⊢; exact h
  | d, e, .lt _ _, h, _ => by unfold Stm.Ok at h ⊢; exact h
  | d, e, .draw _ _, h, _ => by unfold Stm.Ok at h ⊢; exact h
  | d, e, .put _ _ _, h, _ => by unfold Stm.Ok at h ⊢; exact h
  | d, e, .lot _ _ _, h, _ => by unfold Stm.Ok at h ⊢; exact h
  | d, e, .ask _ _ _, h, _ => by unfold Stm.Ok at h ⊢; exact h
  | d, e, .bad, _, _ => Stm.ok_bad
  | 0, e, .ite _ _ _, h, _ => by unfold Stm.Ok at h; exact h.elim
  | d + 1, 0, .ite _ _ _, h, he => absurd he (by omega)
  | d + 1, e + 1, .ite _ _ _, h, he => by unfold Stm.Ok at h ⊢; exact ⟨h.1, Blk.ok_mono h.2.1 (by omega), Blk.ok_mono h.2.2 (by omega)⟩
  | 0, e, .after _, h, _ => by unfold Stm.Ok at h; exact h.elim
  | d + 1, 0, .after _, h, he => absurd he (by omega)
  | d + 1, e + 1, .after _, h, he => by unfold Stm.Ok at h ⊢; exact Blk.ok_mono h (by omega)
theorem Blk.ok_mono {s : Sc} {k : Nat} : ∀ {d e : Nat} {b : Blk}, b.Ok s k d → d ≤ e → b.Ok s k e
  | d, e, .nil, _, _ => Blk.ok_nil
  | d, e, .cons x r, h, he => by unfold Blk.Ok at h ⊢; exact ⟨Stm.ok_mono h.1 he, Blk.ok_mono h.2 he⟩
end
/-! ### a list of data that grows -/
structure Acc (K : PySem.W.Frag) (H0 H : Hp) (l : Addr) (vs : List V) (ds : List PyData) : Prop where
  s : Same H0 H
  f : H0 l = none
  l : H l = some (.lst vs)
  d : DpAll K H vs ds
  n : nolAll ds = true
section
variable {K : PySem.W.Frag} {H0 H H' : Hp} {l : Addr} {vs : List V} {ds : List PyData} {v : V} {d : PyData}
theorem Acc.start (h : H0 l = none) : Acc K H0 (upd H0 l (.lst [])) l [] [] := ⟨same_new h _, h, upd_same, .nil, rfl⟩
theorem Acc.grow (a : Acc K H0 H l vs ds) (e : Same H H') : Acc K H0 H' l vs ds := ⟨a.s.trans e, a.f, e _ _ a.l, dp_monoAll e _ _ a.d, a.n⟩
theorem Acc.add (a : Acc K H0 H l vs ds) (hd : Dp K H v d) (hn : nol d = true) : Acc K H0 (upd H l (.lst (vs ++ [v]))) l (vs ++ [v]) (ds ++ [d]) := by
  have tp : Tups H (upd H l (.lst (vs ++ [v]))) := Tups.lst a.l
  refine ⟨fun b o e => by rw [upd_ne (ne_of_none e a.f)]; exact a.s _ _ e, a.f, upd_same, DpAll.app (dp_tupsAll tp _ _ a.n a.d) (.cons (dp_tups tp _ _ hn hd) .nil), ?_⟩
  rw [nolAll_app, a.n]
  show (true && (nol d && nolAll [])) = true
  rw [hn]
  rfl
theorem Acc.len (a : Acc K H0 H l vs ds) : vs.length = ds.length := DpAll.len a.d
end
/-! ### a slice of a tuple, whichever it is -/
def rSlB (K : PySem.W.Frag) : V → Option Int → Option Int → Hp → VK → Prop := fun x lo hi H Q => ∃ a xs, x = .ref a ∧ SqT K H a xs ∧ ∀ p H', Same H H' → SqT K H' p (cutV xs lo hi) → Q (.ref p) H'
theorem slTB {X : Cx} (K : PySem.W.Frag) (h : X.K = K) : SlR X (rSlB K) := by
  subst h
  intro pins s σ H x v vl vu lo hi sl Q I rx hs pl pu h
  obtain ⟨a, xs, rfl, hx, q⟩ := h
  refine sl_tupA pins s σ H _ v vl vu lo hi sl Q I rx hs pl pu ⟨a, xs, rfl, hx, fun w => q a H (Same.refl _) ?_, fun _ p hp => q p _ (same_new hp _) (SqT.of upd_same)⟩
  have e : cutV xs lo hi = xs := by
    unfold cutV
    rw [w.1, w.2, List.drop_zero, Nat.sub_zero, List.take_length]
  rw [e]
  exact hx
theorem cut3 {r : Int} (h0 : 0 ≤ r) (h1 : r < 2) : cutV [.str "g", .str "a", .str "b"] none (some (2 + r)) = ([("g" : Str), "a"]).map V.str ∨ cutV [.str "g", .str "a", .str "b"] none (some (2 + r)) = ([("g" : Str), "a", "b"]).map V.str := by
  have : r = 0 ∨ r = 1 := by omega
  rcases this with rfl | rfl
  · exact .inl rfl
  · exact .inr rfl
theorem take_more {α : Type} : ∀ {l : List α} {i : Nat} {x : α}, l[i]? = some x → l.take (i + 1) = l.take i ++ [x]
  | [], i, x, h => by simp at h
  | a :: l, 0, x, h => by
    have e : a = x := Option.some.inj h
    subst e
    rfl
  | a :: l, i + 1, x, h => by
    have ih := take_more (l := l) (i := i) (x := x) h
    show a :: l.take (i + 1) = a :: l.take i ++ [x]
    rw [ih]
    rfl
theorem str_at {xs : List Str} {i : Nat} (h : i < (((xs.map V.str).length : Nat) : Int).toNat) : ∃ x, xs[i]? = some x ∧ atI (xs.map V.str) (0 + (i : Int)) = some (.str x) := by
  rw [List.length_map] at h
  have hi : i < xs.length := by omega
  exact ⟨xs[i], List.getElem?_eq_getElem hi, at_of (j := i) (by omega) (by rw [List.getElem?_map, List.getElem?_eq_getElem hi] <;> rfl)⟩
/-! ### games -/
structure Pr where
  name : Str
  size : Int
  ans : Int
  locs : List Str
  block : Blk
  res : Ex
structure Ga where
  vars : List (Str × Int × Int)
  tabs : List (Str × Int × Int)
  lots : List (Str × Int × Int)
  procs : List Pr
def trip (t : Str × Int × Int) : PyData := .tuple [.str t.1, .int t.2.1, .int t.2.2]
def strD (xs : List Str) : PyData := .tuple (xs.map PyData.str)
def Pr.d (p : Pr) : PyData := .tuple [.str p.name, .int p.size, .int p.ans, strD p.locs, p.block.d, p.res.d]
def trips (ts : List (Str × Int × Int)) : PyData := .tuple (ts.map trip)
def Ga.d (g : Ga) : PyData := .tuple [trips g.vars, trips g.tabs, trips g.lots, .tuple (g.procs.map Pr.d)]
theorem nol_trip (t : Str × Int × Int) : nol (trip t) = true := rfl
theorem nolAll_trips : ∀ ts : List (Str × Int × Int), nolAll (ts.map trip) = true
  | [] => rfl
  | t :: ts => by show (nol (trip t) && nolAll (ts.map trip)) = true; rw [nolAll_trips ts]; rfl
theorem Pr.nol (p : Pr) : nol p.d = true := by
  show (Gm.nol (.str p.name) && (Gm.nol (.int p.size) && (Gm.nol (.int p.ans) && (nolAll (p.locs.map PyData.str) && (nolAll p.block.ds && (Gm.nol p.res.d && nolAll [])))))) = true
  rw [nolAll_strs, Blk.nol, Ex.nol]
  rfl
theorem nolAll_procs : ∀ ps : List Pr, nolAll (ps.map Pr.d) = true
  | [] => rfl
  | p :: ps => by show (nol p.d && nolAll (ps.map Pr.d)) = true; rw [nolAll_procs ps, Pr.nol]; rfl
theorem Ga.nol (g : Ga) : nol g.d = true := by
  show (nolAll (g.vars.map trip) && (nolAll (g.tabs.map trip) && (nolAll (g.lots.map trip) && (nolAll (g.procs.map Pr.d) && nolAll [])))) = true
  rw [nolAll_trips, nolAll_trips, nolAll_trips, nolAll_procs]
  rfl
def Ga.sc (g : Ga) (locs asks : List Str) : Sc := ⟨locs, g.vars.map (·.1), g.tabs.map (·.1), g.lots.map (·.1), asks⟩
/-! ### the games that the laws draw -/
structure PrOk (g : Ga) (p : Pr) : Prop where
  size : 1 ≤ p.size ∧ p.size ≤ 3
  ans : 2 ≤ p.ans ∧ p.ans ≤ 4
  locs : p.locs = (["g", "a"] : List Str) ∨ p.locs = (["g", "a", "b"] : List Str)
  block : p.block.Ok (g.sc p.locs []) 3 2
  len : 1 ≤ p.block.len ∧ p.block.len ≤ 4
  res : p.res.Ok (g.sc p.locs []) 3
structure GaOk (g : Ga) : Prop where
  vars : g.vars.map (·.1) = ([] : List Str) ∨ g.vars.map (·.1) = (["x"] : List Str) ∨ g.vars.map (·.1) = (["x", "y"] : List Str)
  var : ∀ v ∈ g.vars, (v.2.1 = 2 ∨ v.2.1 = 3 ∨ v.2.1 = 65535) ∧ (v.2.2 = 0 ∨ v.2.2 = 1)
  tabs : g.tabs.map (·.1) = ([] : List Str) ∨ g.tabs.map (·.1) = (["t"] : List Str) ∨ g.tabs.map (·.1) = (["t", "m"] : List Str)
  tab : ∀ v ∈ g.tabs, (v.2.1 = 2 ∨ v.2.1 = 3) ∧ (v.2.2 = 2 ∨ v.2.2 = 3)
  lots : g.lots.map (·.1) = ([] : List Str) ∨ g.lots.map (·.1) = (["o"] : List Str) ∨ g.lots.map (·.1) = (["o", "k"] : List Str)
  lot : ∀ v ∈ g.lots, (v.2.1 = 2 ∨ v.2.1 = 3) ∧ v.2.2 = 2
  procs : g.procs.map (·.name) = (["p"] : List Str) ∨ g.procs.map (·.name) = (["p", "r"] : List Str)
  proc : ∀ p ∈ g.procs, PrOk g p
/-! ### more picks -/
theorem dig_at {ds : List Int} {i : Int} (h0 : 0 ≤ i) (h1 : i < (ds.length : Int)) : ∃ d ∈ ds, atI (ds.map V.int) i = some (.int d) := by
  have hk : i.toNat < ds.length := by omega
  exact ⟨ds[i.toNat], List.getElem_mem hk, at_of (j := i.toNat) (by omega) (by rw [List.getElem?_map, List.getElem?_eq_getElem hk] <;> rfl)⟩
theorem cut2 {a b : Str} {j : Int} (h0 : 0 ≤ j) (h1 : j ≤ 2) : cutV ([V.str a, V.str b]) none (some j) = (([a, b] : List Str).take j.toNat).map V.str := by
  have : j = 0 ∨ j = 1 ∨ j = 2 := by omega
  rcases this with rfl | rfl | rfl <;> rfl
theorem take2 {a b : Str} (n : Nat) (h : n ≤ 2) : ([a, b] : List Str).take n = [] ∨ ([a, b] : List Str).take n = [a] ∨ ([a, b] : List Str).take n = [a, b] := by
  have : n = 0 ∨ n = 1 ∨ n = 2 := by omega
  rcases this with rfl | rfl | rfl
  · exact .inl rfl
  · exact .inr (.inl rfl)
  · exact .inr (.inr rfl)
end Gm
set_option Elab.async false
set_option linter.all false
set_option maxRecDepth 100000
set_option maxHeartbeats 2000000
/-! Words of a text: names, numbers; an object that takes them one after the other. -/
namespace Pz
open PySem L2 Gm
def lets : Str := "abcdefghijklmnopqrstuvwxyz"
def digs : Str := "0123456789"
def letB (c : Nat) : Bool := decide (c ∈ lets.cps.toList)
def digB (c : Nat) : Bool := decide (c ∈ digs.cps.toList)
def keys : List Str := ["var", "table", "lots", "proc", "local", "set", "let", "draw", "put", "lot", "ask", "if", "else", "end", "bad", "after", "answer", "has", "cell", "mod"]
def signs (w : Str) : List Nat := w.cps.toList
def isName (w : Str) : Bool := decide (1 ≤ w.length ∧ w.length ≤ 12) && !decide (w ∈ keys) && (match signs w with | [] => false | c :: _ => letB c) && (signs w).all fun c => letB c || digB c
def numW (w : Str) : Nat := NumText.digitsVal (signs w)
def isNum (w : Str) : Bool := decide (1 ≤ w.length ∧ w.length ≤ 5) && (signs w).all digB && (match signs w with | [] => false | c :: _ => if c = 48 then decide (w = "0") else decide (numW w ≤ 65535))
theorem len_signs (w : Str) : (signs w).length = w.length := Array.length_toList
theorem digB_iff {c : Nat} : digB c = true ↔ 48 ≤ c ∧ c ≤ 57 := by
  unfold digB
  rw [decide_eq_true_iff, show digs.cps.toList = [48, 49, 50, 51, 52, 53, 54, 55, 56, 57] from by decide +kernel]
  simp only [List.mem_cons, List.not_mem_nil, or_false]
  omega
theorem num_text {w : Str} (h : (signs w).all digB = true) (h1 : 1 ≤ w.length) (h2 : w.length ≤ 5) : intText? w = some ((numW w : Nat) : Int) := by
  refine _root_.PySem.intText_digits (fun c hc => ?_) (fun z => ?_) (by omega)
  · exact digB_iff.mp (List.all_eq_true.mp h c hc)
  · have := len_signs w
    unfold signs at this
    rw [z] at this
    simp at this
    omega
theorem flat_strs : ∀ xs : List Str, (xs.map V.str).all flatV = true
  | [] => rfl
  | x :: xs => by rw [List.map_cons, List.all_cons, flat_strs xs]; rfl
theorem inV_strs (x : Str) : ∀ xs : List Str, inV (.str x) (xs.map V.str) = decide (x ∈ xs)
  | [] => rfl
  | y :: xs => by
    have ih := inV_strs x xs
    unfold inV at ih ⊢
    rw [List.map_cons, List.any_cons, ih]
    by_cases h : y = x
    · subst h
      rw [show eqV (.str y) (.str y) = true from by simp [eqV], Bool.true_or]
      exact (decide_eq_true List.mem_cons_self).symm
    · rw [show eqV (.str y) (.str x) = false from by simp [eqV, h], Bool.false_or]
      refine decide_eq_decide.mpr ⟨List.mem_cons_of_mem _, fun m => ?_⟩
      rcases List.mem_cons.mp m with e | e
      · exact absurd e.symm h
      · exact e
/-- the word at a place, the empty word behind the last one -/
def wd (ws : List Str) (i : Nat) : Str := ws.getD i Str.empty
/-- all but the object at p stands -/
def But (p : Addr) (H H' : Hp) : Prop := ∀ b o, H b = some o → b ≠ p → H' b = some o
theorem But.refl (p : Addr) (H : Hp) : But p H H := fun _ _ e _ => e
theorem But.trans {p : Addr} {H H1 H2 : Hp} (a : But p H H1) (b : But p H1 H2) : But p H H2 := fun c o e n => b c o (a c o e n) n
theorem But.same {p : Addr} {H H' : Hp} (s : Same H H') : But p H H' := fun b o e _ => s b o e
theorem But.upd {p : Addr} {H : Hp} {o : HO} : But p H (upd H p o) := fun b u e n => by rw [upd_ne n]; exact e
/-- an object that takes words: ws in the list at l, the next one i -/
structure WAt (C : Addr) (H : Hp) (p l : Addr) (ws : List Str) (i : Nat) : Prop where
  ob : ∃ dx fs, H p = some (.ins C dx fs) ∧ fs.lookup ("words" : Str) = some (.ref l) ∧ fs.lookup ("at" : Str) = some (.int i) ∧ (∀ m : Str, m ≠ "words" → m ≠ "at" → fs.lookup m = none) ∧ fs.length < 900
  li : H l = some (.lst (ws.map V.str))
  le : i ≤ ws.length
  sz : ws.length < 1000000
  wl : ∀ w ∈ ws, w.length ≤ 1000000
section
variable {C : Addr} {H H' : Hp} {p l : Addr} {ws : List Str} {i : Nat}
theorem WAt.ne (h : WAt C H p l ws i) : l ≠ p := fun e => by
  obtain ⟨dx, fs, e1, _⟩ := h.ob
  have e2 := h.li
  rw [e, e1] at e2
  cases e2
theorem WAt.same (h : WAt C H p l ws i) (s : Same H H') : WAt C H' p l ws i :=
  let ⟨dx, fs, e1, e2⟩ := h.ob
  ⟨⟨dx, fs, s _ _ e1, e2⟩, s _ _ h.li, h.le, h.sz, h.wl⟩
theorem But.tups {H H' : Hp} {p : Addr} {C : Addr} {dx : Addr} {fs : List (Str × V)} (b : But p H H') (h : H p = some (.ins C dx fs)) : Tups H H' := fun c o e k => b c o e fun z => by
  rw [z, h] at e
  cases e
  rcases k with ⟨_, z⟩ | ⟨_, _, z⟩ <;> cases z
theorem WAt.tups (h : WAt C H p l ws i) (b : But p H H') : Tups H H' :=
  let ⟨dx, fs, e1, _⟩ := h.ob
  b.tups e1
theorem wd_len (h : WAt C H p l ws i) : (wd ws i).length ≤ 1000000 := by
  unfold wd
  rw [List.getD_eq_getElem?_getD]
  cases e : ws[i]? with
  | none => exact Nat.zero_le _
  | some w => exact h.wl w (List.mem_of_getElem? e)
theorem putF_len {f : Str} {v x : V} : ∀ {fs : List (Str × V)}, fs.lookup f = some x → (putF f v fs).length = fs.length
  | [], h => by cases h
  | (g, y) :: r, h => by
    by_cases e : g = f
    · rw [putF, if_pos e] <;> rfl
    · have e2 : (f == g) = false := by
        cases z : f == g with
        | false => rfl
        | true => exact absurd (eq_of_beq z).symm e
      rw [putF, if_neg e, List.length_cons, List.length_cons, putF_len (fs := r) (by simpa [List.lookup, e2] using h)]
theorem WAt.lt_of (h : WAt C H p l ws i) (n : wd ws i ≠ Str.empty) : i < ws.length := by
  refine Nat.lt_of_le_of_ne h.le fun e => n ?_
  unfold wd
  rw [e, List.getD_eq_getElem?_getD, List.getElem?_eq_none (Nat.le_refl _)]
  rfl
theorem isNum_text {w : Str} (h : isNum w = true) : intText? w = some ((numW w : Nat) : Int) ∧ w.length ≤ 640 := by
  unfold isNum at h
  rw [Bool.and_eq_true, Bool.and_eq_true] at h
  have l := of_decide_eq_true h.1.1
  exact ⟨num_text h.1.2 l.1 l.2, by omega⟩
/-- the words that v offers -/
def Amg (K : PySem.W.Frag) (H : Hp) (v : V) (cs : List Str) : Prop :=
  ∃ a, v = .ref a ∧ (SqL K H a (cs.map V.str) ∨ SqT K H a (cs.map V.str) ∨ ∃ kvs, H a = some (.dK kvs) ∧ ∀ x : Str, (valV kvs (.inr x)).isSome = decide (x ∈ cs))
def rNotU (K : PySem.W.Frag) : R2 := fun x y H Q => rIn K true x y H Q ∨ ∃ a ov, y = .ref a ∧ DGet H a x ov ∧ Q (.bl (!ov.isSome)) H
theorem op_notU {X : Cx} (hu : X.A.units + 1 < cLine) : OpR X (compareOp .NotIn) (rNotU X.K) := by
  intro pins s σ H x y v u Q I rx ry h
  rcases h with h | ⟨a, ov, rfl, g, q⟩
  · exact op_notIn_seq pins s σ H x y v u Q I rx ry h
  · obtain rfl : u = Value.ref a := ry
    exact d_notIn hu I g rx fun s3 I3 => ⟨.bl (!ov.isSome), H, I3, rfl, q⟩
theorem Amg.notU {K : PySem.W.Frag} {H : Hp} {v : V} {cs : List Str} {x : Str} {Q : VK} (h : Amg K H v cs) (q : Q (.bl (!decide (x ∈ cs))) H) : rNotU K (.str x) v H Q := by
  obtain ⟨a, rfl, h | h | ⟨kvs, h, k⟩⟩ := h
  · refine .inl ⟨a, _, rfl, .inl h, rfl, flat_strs _, ?_⟩
    rw [if_pos rfl, inV_strs]
    exact q
  · refine .inl ⟨a, _, rfl, .inr h, rfl, flat_strs _, ?_⟩
    rw [if_pos rfl, inV_strs]
    exact q
  · refine .inr ⟨a, _, rfl, DGet.k (k := .inr x) h, ?_⟩
    rw [k x]
    exact q
/-- a text refused at the word i -/
def Ref (p B : Addr) (H : Hp) (i : Nat) (E : XK) : Prop := ∀ d H', But p H H' → H' d = some (.xd [("at", .int i)]) → E (.ref B) (some d) H'
theorem Ref.later {p B : Addr} {H H1 : Hp} {i : Nat} {E : XK} (h : Ref p B H i E) (b : But p H H1) : Ref p B H1 i E := fun d H' c e => h d H' (b.trans c) e
theorem WAt.nomt {m : Str} (h : WAt C H p l ws i) (h1 : m ≠ "words" := by decide) (h2 : m ≠ "at" := by decide) : ∃ dx fs, H p = some (.ins C dx fs) ∧ fs.lookup m = none :=
  let ⟨dx, fs, e1, _, _, e4, _⟩ := h.ob
  ⟨dx, fs, e1, e4 m h1 h2⟩
end
/-! ### what the methods promise -/
section
variable (C B : Addr)
def spEnded : Sp := fun vs H Q _ => ∃ (p l : Addr) (ws : List Str) (i : Nat), vs = [.ref p] ∧ WAt C H p l ws i ∧ Q (.bl (decide (i = ws.length))) H
def spAhead : Sp := fun vs H Q _ => ∃ (p l : Addr) (ws : List Str) (i : Nat), vs = [.ref p] ∧ WAt C H p l ws i ∧ Q (.str (wd ws i)) H
def toWords (x : Str) : List Str := if x.length = 0 then [] else Txt.split x " "
def spWords : Sp := fun vs H Q _ => ∃ (p dx : Addr) (x : Str), vs = [.ref p, .str x] ∧ H p = some (.ins C dx []) ∧ x.length ≤ 900000 ∧ (toWords x).length < 1000000 ∧ (∀ w ∈ toWords x, w.length ≤ 1000000) ∧
  ∀ l H', But p H H' → WAt C H' p l (toWords x) 0 → Q .non H'
def spRefuse : Sp := fun vs H _ E => ∃ (p l : Addr) (ws : List Str) (i : Nat), vs = [.ref p] ∧ WAt C H p l ws i ∧ Ref p B H i E
def spTake : Sp := fun vs H Q _ => ∃ (p l : Addr) (ws : List Str) (i : Nat), vs = [.ref p] ∧ WAt C H p l ws i ∧ i < ws.length ∧ ∀ H', But p H H' → WAt C H' p l ws (i + 1) → Q (.str (wd ws i)) H'
/-- one word is taken, or refused -/
def Tk1 (p l : Addr) (ws : List Str) (i : Nat) (H : Hp) (Q : V → Hp → Prop) (E : XK) (c : Bool) (y : V) : Prop := if c = true then ∀ H', But p H H' → WAt C H' p l ws (i + 1) → Q y H' else Ref p B H i E
def spOneOf (K : PySem.W.Frag) : Sp := fun vs H Q E => ∃ (p l : Addr) (ws : List Str) (i : Nat) (v : V) (cs : List Str), vs = [.ref p, v] ∧ WAt C H p l ws i ∧ Amg K H v cs ∧ Str.empty ∉ cs ∧ Tk1 C B p l ws i H Q E (decide (wd ws i ∈ cs)) (.str (wd ws i))
def spName (K : PySem.W.Frag) : Sp := fun vs H Q E => ∃ (p l : Addr) (ws : List Str) (i : Nat) (a : Addr) (cs : List Str), vs = [.ref p, .ref a] ∧ WAt C H p l ws i ∧ (SqL K H a (cs.map V.str) ∨ SqT K H a (cs.map V.str)) ∧ Tk1 C B p l ws i H Q E (isName (wd ws i) && !decide (wd ws i ∈ cs)) (.str (wd ws i))
def spNumber : Sp := fun vs H Q E => ∃ (p l : Addr) (ws : List Str) (i : Nat), ∃ lo hi : Int, vs = [.ref p, .int lo, .int hi] ∧ WAt C H p l ws i ∧ Tk1 C B p l ws i H Q E (isNum (wd ws i) && decide (lo ≤ (numW (wd ws i) : Nat) ∧ ((numW (wd ws i) : Nat) : Int) ≤ hi)) (.int (numW (wd ws i) : Nat))
def spFinish : Sp := fun vs H Q E => ∃ (p l : Addr) (ws : List Str) (i : Nat), vs = [.ref p] ∧ WAt C H p l ws i ∧ if i = ws.length then Q .non H else Ref p B H i E
end
/-! ### expressions: what is read -/
def looks : List Str := ["has", "cell"]
def lookEx (x t : Str) (e : Ex) : Ex := if x = "has" then .has t e else .cell t e
def pAtom (ws : List Str) (s : Sc) (i : Nat) : Except Nat (Ex × Nat) :=
  if isNum (wd ws i) = true then .ok (.num (numW (wd ws i) : Nat), i + 1)
  else if wd ws i ∈ s.vars then .ok (.var (wd ws i), i + 1)
  else if wd ws i ∈ s.locs then .ok (.loc (wd ws i), i + 1)
  else .error i
def pExpr (ws : List Str) (s : Sc) : Nat → Nat → Except Nat (Ex × Nat)
  | 0, i => pAtom ws s i
  | k + 1, i =>
    if wd ws i ∈ ops then
      match pExpr ws s k (i + 1) with
      | .error j => .error j
      | .ok (a, j) => match pExpr ws s k j with
        | .error m => .error m
        | .ok (b, m) => .ok (.op (wd ws i) a b, m)
    else if wd ws i ∈ looks ∧ s.tabs ≠ [] then
      if wd ws (i + 1) ∈ s.tabs then
        match pExpr ws s k (i + 2) with
        | .error j => .error j
        | .ok (e, j) => .ok (lookEx (wd ws i) (wd ws (i + 1)) e, j)
      else .error (i + 1)
    else pAtom ws s i
/-- the data of the words that are an expression by themselves -/
def MeanAt (K : PySem.W.Frag) (H : Hp) (m : Addr) (s : Sc) : Prop :=
  ∃ kvs, H m = some (.dK kvs) ∧ ∀ x : Str, (x ∈ s.vars → ∃ v, valV kvs (.inr x) = some v ∧ Dp K H v (Ex.var x).d) ∧ (x ∉ s.vars → x ∈ s.locs → ∃ v, valV kvs (.inr x) = some v ∧ Dp K H v (Ex.loc x).d) ∧
    (x ∉ s.vars → x ∉ s.locs → valV kvs (.inr x) = none)
section
variable {K : PySem.W.Frag} {C : Addr} {H H' : Hp} {p l m : Addr} {ws : List Str} {i : Nat} {s : Sc}
theorem WAt.other (h : WAt C H p l ws i) {a : Addr} {o : HO} (e : H a = some o) (n : ∀ C dx fs, o ≠ .ins C dx fs) : a ≠ p := fun z => by
  obtain ⟨dx, fs, e1, _⟩ := h.ob
  rw [z, e1] at e
  exact n _ _ _ (Option.some.inj e).symm
theorem WAt.sqL (h : WAt C H p l ws i) (b : But p H H') {a : Addr} {xs : List V} (e : SqL K H a xs) : SqL K H' a xs := by
  rcases e with (e | ⟨o, e⟩) | e
  · exact .inl (.inl (b _ _ e (h.other e fun _ _ _ z => by cases z)))
  · exact .inl (.inr ⟨o, b _ _ e (h.other e fun _ _ _ z => by cases z)⟩)
  · exact .inr e
theorem WAt.sqT (h : WAt C H p l ws i) (b : But p H H') {a : Addr} {xs : List V} (e : SqT K H a xs) : SqT K H' a xs := sqT_tups (h.tups b) e
theorem WAt.dp (h : WAt C H p l ws i) (b : But p H H') {v : V} (e : Ex) (d : Dp K H v e.d) : Dp K H' v e.d := dp_tups (h.tups b) _ _ (Ex.nol e) d
theorem WAt.mean (h : WAt C H p l ws i) (b : But p H H') (M : MeanAt K H m s) : MeanAt K H' m s := by
  obtain ⟨kvs, e, f⟩ := M
  refine ⟨kvs, b _ _ e (h.other e fun _ _ _ z => by cases z), fun x => ⟨fun hx => ?_, fun h1 h2 => ?_, (f x).2.2⟩⟩
  · obtain ⟨v, e1, d⟩ := (f x).1 hx
    exact ⟨v, e1, h.dp b _ d⟩
  · obtain ⟨v, e1, d⟩ := (f x).2.1 h1 h2
    exact ⟨v, e1, h.dp b _ d⟩
theorem MeanAt.amg (M : MeanAt K H m s) : Amg K H (.ref m) (s.vars ++ s.locs) := by
  obtain ⟨kvs, e, f⟩ := M
  refine ⟨m, rfl, .inr (.inr ⟨kvs, e, fun x => ?_⟩)⟩
  by_cases h1 : x ∈ s.vars
  · obtain ⟨v, e1, _⟩ := (f x).1 h1
    rw [e1]
    exact (decide_eq_true (List.mem_append_left _ h1)).symm
  · by_cases h2 : x ∈ s.locs
    · obtain ⟨v, e1, _⟩ := (f x).2.1 h1 h2
      rw [e1]
      exact (decide_eq_true (List.mem_append_right _ h2)).symm
    · rw [(f x).2.2 h1 h2]
      exact (decide_eq_false fun z => (List.mem_append.mp z).elim h1 h2).symm
end
/-- what is known of the names in scope -/
structure NoE (s : Sc) : Prop where
  v : Str.empty ∉ s.vars
  l : Str.empty ∉ s.locs
  t : Str.empty ∉ s.tabs
/-- how a reading of an expression ends -/
def ExEnd (C B : Addr) (K : PySem.W.Frag) (p l : Addr) (ws : List Str) (H : Hp) (Q : VK) (E : XK) : Except Nat (Ex × Nat) → Prop
  | .ok (e, j) => ∀ v H', But p H H' → WAt C H' p l ws j → Dp K H' v e.d → Q v H'
  | .error j => Ref p B H j E
def spExpr (C B : Addr) (K : PySem.W.Frag) (k : Nat) : Sp := fun vs H Q E => ∃ (p l m tb : Addr) (ws : List Str) (i : Nat) (s : Sc), vs = [.ref p, .ref m, .ref tb, .int (8 - (k : Int))] ∧ WAt C H p l ws i ∧ MeanAt K H m s ∧ SqL K H tb (s.tabs.map V.str) ∧ NoE s ∧
  ExEnd C B K p l ws H Q E (pExpr ws s k i)
theorem isNum_le {x : Str} (h : isNum x = true) : numW x ≤ 65535 := by
  unfold isNum at h
  rw [Bool.and_eq_true] at h
  have h2 := h.2
  cases e : signs x with
  | nil => rw [e] at h2; cases h2
  | cons c cs =>
    rw [e] at h2
    have h2 : (if c = 48 then decide (x = "0") else decide (numW x ≤ 65535)) = true := h2
    by_cases z : c = 48
    · rw [if_pos z] at h2
      have : x = "0" := of_decide_eq_true h2
      rw [this]
      decide +kernel
    · rw [if_neg z] at h2
      exact of_decide_eq_true h2
theorem dp_look {K : PySem.W.Frag} {H : Hp} {q : Addr} {x t : Str} {v : V} {e : Ex} (hq : H q = none) (h : x ∈ looks) (d : Dp K H v e.d) : Dp K (upd H q (.tup [.str x, .str t, v])) (.ref q) (lookEx x t e).d := by
  unfold lookEx
  rcases List.mem_cons.mp h with rfl | h
  · rw [if_pos rfl]
    unfold Ex.d
    exact dp_tup hq (.cons (.str _) (.cons (.str _) (.cons d .nil)))
  · obtain rfl := List.mem_singleton.mp h
    rw [if_neg (by decide +kernel)]
    unfold Ex.d
    exact dp_tup hq (.cons (.str _) (.cons (.str _) (.cons d .nil)))
/-- the statements behind two ifs, where both fall through -/
theorem tail_split {a a' : TT} {A A' B B' R : TS} {D : Ends} {σ : L2.St} {H : Hp} (c : Prop) (h : (c → R D σ H) → tSeq (tIfS a A A') (tSeq (tIfS a' B B') R) D σ H) (hr : c → R D σ H) : tSeq (tIfS a A A') (tSeq (tIfS a' B B') R) D σ H := h hr
end Pz
set_option Elab.async false
set_option linter.all false
set_option maxRecDepth 100000
set_option maxHeartbeats 2000000
/-! Statements and games: what is read. -/
namespace Pz
open PySem L2 Gm
/-- a part of a statement -/
inductive Pt where
  | s (x : Str) | n (v : Int) | e (x : Ex)
def Pt.d : Pt → PyData
  | .s x => .str x
  | .n v => .int v
  | .e x => x.d
theorem Pt.nol : ∀ x : Pt, nol x.d = true
  | .s _ => rfl
  | .n _ => rfl
  | .e x => Ex.nol x
def kindNames (s : Sc) (k : Str) : Option (List Str) := if k = "variable" then some s.vars else if k = "local" then some s.locs else if k = "table" then some s.tabs else if k = "lots" then some s.lots else if k = "asked" then some s.asks else none
def forms : List (Str × List Str) := [("set", ["variable", "expression"]), ("let", ["local", "expression"]), ("draw", ["local", "number"]), ("put", ["table", "expression", "expression"]), ("lot", ["local", "lots", "expression"]), ("ask", ["local", "asked", "expression"]), ("bad", [])]
def words : List Str := ["set", "let", "draw", "put", "lot", "ask", "bad"]
def formOf (w : Str) : List Str := (forms.lookup w).getD []
def canFollow (s : Sc) (k : Str) : Bool := match kindNames s k with
  | none => true
  | some xs => decide (0 < xs.length)
def startsOf (s : Sc) : List Str := words.filter fun w => (formOf w).all (canFollow s)
/-- whether a statement with this first word may stand where k more levels are left -/
def can (s : Sc) (k : Nat) (w : Str) : Bool := if w = "if" ∨ w = "after" then decide (0 < k) else decide (w ∈ startsOf s)
section
variable (ws : List Str) (s : Sc)
def pPart (k : Str) (i : Nat) : Except Nat (Pt × Nat) :=
  if k = "expression" then (match pExpr ws s 7 i with
    | .error j => .error j
    | .ok (e, j) => .ok (.e e, j))
  else if k = "number" then (if (isNum (wd ws i) && decide ((1 : Int) ≤ (numW (wd ws i) : Nat) ∧ ((numW (wd ws i) : Nat) : Int) ≤ 64)) = true then .ok (.n (numW (wd ws i) : Nat), i + 1) else .error i)
  else match kindNames s k with
    | some xs => if decide (wd ws i ∈ xs) = true then .ok (.s (wd ws i), i + 1) else .error i
    | none => .error i
def pParts : List Str → Nat → Except Nat (List Pt × Nat)
  | [], i => .ok ([], i)
  | k :: ks, i => match pPart ws s k i with
    | .error j => .error j
    | .ok (x, j) => match pParts ks j with
      | .error m => .error m
      | .ok (xs, m) => .ok (x :: xs, m)
def mkStm (w : Str) (xs : List Pt) : Stm :=
  if w = "set" then (match xs with | [.s x, .e v] => .set x v | _ => .bad)
  else if w = "let" then (match xs with | [.s x, .e v] => .lt x v | _ => .bad)
  else if w = "draw" then (match xs with | [.s x, .n v] => .draw x v | _ => .bad)
  else if w = "put" then (match xs with | [.s x, .e v, .e u] => .put x v u | _ => .bad)
  else if w = "lot" then (match xs with | [.s x, .s y, .e u] => .lot x y u | _ => .bad)
  else if w = "ask" then (match xs with | [.s x, .s y, .e u] => .ask x y u | _ => .bad)
  else .bad
def pSimple (i : Nat) : Except Nat (Stm × Nat) := match pParts ws s (formOf (wd ws i)) (i + 1) with
  | .error j => .error j
  | .ok (xs, j) => .ok (mkStm (wd ws i) xs, j)
/-- statements as long as one can begin, at most f of them -/
def pLoop (st : Nat → Except Nat (Stm × Nat)) (k : Nat) : Nat → Nat → Except Nat (Blk × Nat)
  | 0, i => .ok (.nil, i)
  | f + 1, i => if can s k (wd ws i) = true then (match st i with
      | .error j => .error j
      | .ok (x, j) => match pLoop st k f j with
        | .error m => .error m
        | .ok (b, m) => .ok (.cons x b, m))
    else .ok (.nil, i)
def pChoice (blk : Nat → Except Nat (Blk × Nat)) (i : Nat) : Except Nat (Stm × Nat) :=
  match pExpr ws s 7 i with
  | .error j => .error j
  | .ok (t, j) => match blk j with
    | .error m => .error m
    | .ok (a, m) => if wd ws m = "end" then .ok (.ite t a .nil, m + 1)
      else if wd ws m = "else" then (match blk (m + 1) with
        | .error q => .error q
        | .ok (b, q) => if b.len = 0 then .error q else if wd ws q = "end" then .ok (.ite t a b, q + 1) else .error q)
      else .error m
def pAfter (blk : Nat → Except Nat (Blk × Nat)) (i : Nat) : Except Nat (Stm × Nat) :=
  match blk i with
  | .error m => .error m
  | .ok (a, m) => if wd ws m = "end" then .ok (.after a, m + 1) else .error m
def pStm : Nat → Nat → Except Nat (Stm × Nat)
  | 0, i => pSimple ws s i
  | k + 1, i => if wd ws i = "if" then pChoice ws s (pLoop ws s (pStm k) k ws.length) (i + 1)
    else if wd ws i = "after" then pAfter ws (pLoop ws s (pStm k) k ws.length) (i + 1)
    else pSimple ws s i
def pBlk (k : Nat) : Nat → Except Nat (Blk × Nat) := pLoop ws s (pStm ws s k) k ws.length
end
/-! ### they go on -/
section
variable {ws : List Str} {s : Sc}
theorem pAtom_lt {i j : Nat} {e : Ex} (h : pAtom ws s i = .ok (e, j)) : i < j := by
  unfold pAtom at h
  split at h
  · cases h; omega
  · split at h
    · cases h; omega
    · split at h
      · cases h; omega
      · cases h
theorem pExpr_lt : ∀ {k i j : Nat} {e : Ex}, pExpr ws s k i = .ok (e, j) → i < j
  | 0, i, j, e, h => pAtom_lt h
  | k + 1, i, j, e, h => by
    unfold pExpr at h
    split at h
    · split at h
      · cases h
      · rename_i h1
        have l1 := pExpr_lt h1
        split at h
        · cases h
        · rename_i h2
          have l2 := pExpr_lt h2
          cases h
          omega
    · split at h
      · split at h
        · split at h
          · cases h
          · rename_i h1
            have l1 := pExpr_lt h1
            cases h
            omega
        · cases h
      · exact pAtom_lt h
theorem pPart_lt {k : Str} {i j : Nat} {x : Pt} (h : pPart ws s k i = .ok (x, j)) : i < j := by
  unfold pPart at h
  split at h
  · split at h
    · cases h
    · rename_i h1
      have := pExpr_lt h1
      cases h
      omega
  · split at h
    · split at h
      · cases h; omega
      · cases h
    · split at h
      · split at h
        · cases h; omega
        · cases h
      · cases h
theorem pParts_le : ∀ {ks : List Str} {i j : Nat} {xs : List Pt}, pParts ws s ks i = .ok (xs, j) → i ≤ j
  | [], i, j, xs, h => by unfold pParts at h; cases h; exact Nat.le_refl _
  | k :: ks, i, j, xs, h => by
    unfold pParts at h
    split at h
    · cases h
    · rename_i h1
      have l1 := pPart_lt h1
      split at h
      · cases h
      · rename_i h2
        have l2 := pParts_le h2
        cases h
        omega
theorem pSimple_lt {i j : Nat} {x : Stm} (h : pSimple ws s i = .ok (x, j)) : i < j := by
  unfold pSimple at h
  split at h
  · cases h
  · rename_i h1
    have := pParts_le h1
    cases h
    omega
theorem pLoop_le {st : Nat → Except Nat (Stm × Nat)} {k : Nat} (hst : ∀ i j x, st i = .ok (x, j) → i ≤ j) : ∀ {f i j : Nat} {b : Blk}, pLoop ws s st k f i = .ok (b, j) → i ≤ j
  | 0, i, j, b, h => by unfold pLoop at h; cases h; exact Nat.le_refl _
  | f + 1, i, j, b, h => by
    unfold pLoop at h
    split at h
    · split at h
      · cases h
      · rename_i h1
        have l1 := hst _ _ _ h1
        split at h
        · cases h
        · rename_i h2
          have l2 := pLoop_le hst h2
          cases h
          omega
    · cases h; exact Nat.le_refl _
theorem pStm_lt : ∀ {k i j : Nat} {x : Stm}, pStm ws s k i = .ok (x, j) → i < j
  | 0, i, j, x, h => pSimple_lt h
  | k + 1, i, j, x, h => by
    have lb : ∀ {i j : Nat} {b : Blk}, pLoop ws s (pStm ws s k) k ws.length i = .ok (b, j) → i ≤ j := fun h => pLoop_le (fun i j x e => Nat.le_of_lt (pStm_lt e)) h
    unfold pStm at h
    split at h
    · unfold pChoice at h
      split at h
      · cases h
      · rename_i h1
        have l1 := pExpr_lt h1
        split at h
        · cases h
        · rename_i h2
          have l2 := lb h2
          split at h
          · cases h; omega
          · split at h
            · split at h
              · cases h
              · rename_i h3
                have l3 := lb h3
                split at h
                · cases h
                · split at h
                  · cases h; omega
                  · cases h
            · cases h
    · split at h
      · unfold pAfter at h
        split at h
        · cases h
        · rename_i h1
          have l1 := lb h1
          split at h
          · cases h; omega
          · cases h
      · exact pSimple_lt h
theorem can_ne {k i : Nat} (h : can s k (wd ws i) = true) (e1 : Str.empty ∉ startsOf s) : wd ws i ≠ Str.empty := fun z => by
  rw [z] at h
  unfold can at h
  rw [if_neg (by decide +kernel)] at h
  exact e1 (of_decide_eq_true h)
theorem empty_starts : Str.empty ∉ startsOf s := fun h => by
  have := (List.mem_filter.mp h).1
  exact absurd this (by decide +kernel)
end
/-! ### how a reading ends -/
def GEnd {α : Type} (d : α → PyData) (C B : Addr) (K : PySem.W.Frag) (p l : Addr) (ws : List Str) (H : Hp) (Q : VK) (E : XK) : Except Nat (α × Nat) → Prop
  | .ok (x, j) => ∀ v H', But p H H' → WAt C H' p l ws j → Dp K H' v (d x) → Q v H'
  | .error j => Ref p B H j E
end Pz
set_option Elab.async false
set_option linter.all false
set_option maxRecDepth 100000
set_option maxHeartbeats 2000000
/-! The object that reads statements. -/
namespace Pz
open PySem L2 Gm
structure NoA (s : Sc) : Prop where
  v : Str.empty ∉ s.vars
  l : Str.empty ∉ s.locs
  t : Str.empty ∉ s.tabs
  o : Str.empty ∉ s.lots
  a : Str.empty ∉ s.asks
theorem NoA.e {s : Sc} (h : NoA s) : NoE s := ⟨h.v, h.l, h.t⟩
theorem NoA.kind {s : Sc} (h : NoA s) {k : Str} {xs : List Str} (e : kindNames s k = some xs) : Str.empty ∉ xs := by
  unfold kindNames at e
  split at e
  · cases e; exact h.v
  · split at e
    · cases e; exact h.l
    · split at e
      · cases e; exact h.t
      · split at e
        · cases e; exact h.o
        · split at e
          · cases e; exact h.a
          · cases e
/-- the names that each kind of part may be -/
def Names (K : PySem.W.Frag) (H : Hp) (nd : Addr) (s : Sc) : Prop := ∃ kvs, H nd = some (.dK kvs) ∧ ∀ k : Str, match kindNames s k with
  | some xs => ∃ a, valV kvs (.inr k) = some (.ref a) ∧ (SqL K H a (xs.map V.str) ∨ (k = "local" ∧ SqT K H a (xs.map V.str)))
  | none => valV kvs (.inr k) = none
structure RAt (C : Addr) (K : PySem.W.Frag) (H : Hp) (r p : Addr) (s : Sc) : Prop where
  ob : ∃ dx fs nd m st, H r = some (.ins C dx fs) ∧ fs.lookup ("words" : Str) = some (.ref p) ∧ fs.lookup ("names" : Str) = some (.ref nd) ∧ fs.lookup ("meanings" : Str) = some (.ref m) ∧ fs.lookup ("starts" : Str) = some (.ref st) ∧
    (∀ x : Str, x ≠ "words" → x ≠ "names" → x ≠ "meanings" → x ≠ "starts" → fs.lookup x = none) ∧ Names K H nd s ∧ MeanAt K H m s ∧ SqL K H st ((startsOf s).map V.str)
section
variable {K : PySem.W.Frag} {C CW : Addr} {H H' : Hp} {p l r nd : Addr} {ws : List Str} {i : Nat} {s : Sc}
theorem WAt.names (h : WAt CW H p l ws i) (b : But p H H') (N : Names K H nd s) : Names K H' nd s := by
  obtain ⟨kvs, e, f⟩ := N
  refine ⟨kvs, b _ _ e (h.other e fun _ _ _ z => by cases z), fun k => ?_⟩
  have z := f k
  split at z
  · obtain ⟨a, e1, q⟩ := z
    exact ⟨a, e1, q.imp (fun q => h.sqL b q) fun q => ⟨q.1, h.sqT b q.2⟩⟩
  · exact z
theorem WAt.rne (h : WAt CW H p l ws i) (R : RAt C K H r p s) : r ≠ p := fun z => by
  obtain ⟨dx, fs, e1, e2, _⟩ := h.ob
  obtain ⟨dx', fs', nd, m, st, f1, f2, _⟩ := R.ob
  rw [z, e1] at f1
  cases f1
  rw [e2] at f2
  cases f2
  exact h.ne rfl
theorem WAt.rat (h : WAt CW H p l ws i) (b : But p H H') (R : RAt C K H r p s) : RAt C K H' r p s := by
  have ne := h.rne R
  obtain ⟨dx', fs', nd, m, st, f1, f2, f3, f4, f5, f6, f7, f8, f9⟩ := R.ob
  exact ⟨dx', fs', nd, m, st, b _ _ f1 ne, f2, f3, f4, f5, f6, h.names b f7, h.mean b f8, h.sqL b f9⟩
theorem RAt.nomt {m : Str} (R : RAt C K H r p s) (h1 : m ≠ "words" := by decide) (h2 : m ≠ "names" := by decide) (h3 : m ≠ "meanings" := by decide) (h4 : m ≠ "starts" := by decide) : ∃ dx fs, H r = some (.ins C dx fs) ∧ fs.lookup m = none :=
  let ⟨dx, fs, _, _, _, e, _, _, _, _, f, _⟩ := R.ob
  ⟨dx, fs, e, f m h1 h2 h3 h4⟩
theorem RAt.words (R : RAt C K H r p s) : ∃ dx fs, H r = some (.ins C dx fs) ∧ fs.lookup ("words" : Str) = some (.ref p) :=
  let ⟨dx, fs, _, _, _, e, e2, _⟩ := R.ob
  ⟨dx, fs, e, e2⟩
theorem Names.get (N : Names K H nd s) {k : Str} {xs : List Str} (e : kindNames s k = some xs) : ∃ kvs a, H nd = some (.dK kvs) ∧ valV kvs (.inr k) = some (.ref a) ∧ (SqL K H a (xs.map V.str) ∨ (k = "local" ∧ SqT K H a (xs.map V.str))) := by
  obtain ⟨kvs, h, f⟩ := N
  have z := f k
  rw [e] at z
  obtain ⟨a, h1, h2⟩ := z
  exact ⟨kvs, a, h, h1, h2⟩
theorem Names.no (N : Names K H nd s) {k : Str} (e : kindNames s k = none) : ∃ kvs, H nd = some (.dK kvs) ∧ valV kvs (.inr k) = none := by
  obtain ⟨kvs, h, f⟩ := N
  have z := f k
  rw [e] at z
  exact ⟨kvs, h, z⟩
end
/-! ### what the methods promise -/
section
variable (C CW B : Addr) (K : PySem.W.Frag)
def spCanFollow : Sp := fun vs H Q _ => ∃ (r dx nd : Addr) (fs : List (Str × V)) (s : Sc) (k : Str), vs = [.ref r, .str k] ∧ H r = some (.ins C dx fs) ∧ fs.lookup ("names" : Str) = some (.ref nd) ∧ Names K H nd s ∧ Q (.bl (canFollow s k)) H
def spCanStart : Sp := fun vs H Q _ => ∃ (r p : Addr) (s : Sc) (w : Str) (k : Nat), vs = [.ref r, .str w, .int (6 - (k : Int))] ∧ RAt C K H r p s ∧ ∀ H', Same H H' → Q (.bl (can s k w)) H'
/-- a reader at work -/
structure Work (H : Hp) (r p l : Addr) (ws : List Str) (i : Nat) (s : Sc) : Prop where
  R : RAt C K H r p s
  W : WAt CW H p l ws i
  N : NoA s
def spExprM : Sp := fun vs H Q E => ∃ (r p l : Addr) (ws : List Str) (i : Nat) (s : Sc), vs = [.ref r] ∧ Work C CW K H r p l ws i s ∧ GEnd Ex.d CW B K p l ws H Q E (pExpr ws s 7 i)
def kinds : List Str := ["variable", "local", "table", "lots", "asked", "expression", "number"]
def spPart : Sp := fun vs H Q E => ∃ (r p l : Addr) (ws : List Str) (i : Nat) (s : Sc) (k : Str), vs = [.ref r, .str k] ∧ Work C CW K H r p l ws i s ∧ k ∈ kinds ∧ GEnd Pt.d CW B K p l ws H Q E (pPart ws s k i)
def spBlock (k : Nat) : Sp := fun vs H Q E => ∃ (r p l : Addr) (ws : List Str) (i : Nat) (s : Sc), vs = [.ref r, .int (6 - (k : Int))] ∧ Work C CW K H r p l ws i s ∧ GEnd Blk.d CW B K p l ws H Q E (pBlk ws s k i)
def spStatement (k : Nat) : Sp := fun vs H Q E => ∃ (r p l : Addr) (ws : List Str) (i : Nat) (s : Sc), vs = [.ref r, .int (6 - (k : Int))] ∧ Work C CW K H r p l ws i s ∧ can s k (wd ws i) = true ∧ GEnd Stm.d CW B K p l ws H Q E (pStm ws s k i)
def spChoice (k : Nat) : Sp := fun vs H Q E => ∃ (r p l : Addr) (ws : List Str) (i : Nat) (s : Sc), vs = [.ref r, .int (6 - (k : Int))] ∧ Work C CW K H r p l ws i s ∧ GEnd Stm.d CW B K p l ws H Q E (pChoice ws s (pBlk ws s k) i)
theorem Work.go {H H' : Hp} {r p l : Addr} {ws : List Str} {i j : Nat} {s : Sc} (w : Work C CW K H r p l ws i s) (b : But p H H') (W' : WAt CW H' p l ws j) : Work C CW K H' r p l ws j s := ⟨w.W.rat b w.R, W', w.N⟩
end
theorem kind_some {s : Sc} {k : Str} (h : k ∈ kinds) (h1 : k ≠ "expression") (h2 : k ≠ "number") : ∃ xs, kindNames s k = some xs := by
  simp only [kinds, List.mem_cons, List.not_mem_nil, or_false] at h
  rcases h with rfl | rfl | rfl | rfl | rfl | rfl | rfl
  · exact ⟨_, rfl⟩
  · exact ⟨_, rfl⟩
  · exact ⟨_, rfl⟩
  · exact ⟨_, rfl⟩
  · exact ⟨_, rfl⟩
  · exact absurd rfl h1
  · exact absurd rfl h2
theorem GEnd.later {α : Type} {d : α → PyData} {C B : Addr} {K : PySem.W.Frag} {p l : Addr} {ws : List Str} {H H1 : Hp} {Q : VK} {E : XK} {r : Except Nat (α × Nat)} (h : GEnd d C B K p l ws H Q E r) (b : But p H H1) : GEnd d C B K p l ws H1 Q E r := by
  cases r with
  | error j => exact Ref.later h b
  | ok x => exact fun v H' b' w d' => h v H' (b.trans b') w d'
/-! ### a statement from its parts -/
section
variable {ws : List Str} {s : Sc}
theorem part_e {i j : Nat} {x : Pt} (h : pPart ws s "expression" i = .ok (x, j)) : ∃ e, x = .e e := by
  unfold pPart at h
  rw [if_pos rfl] at h
  split at h
  · cases h
  · cases h; exact ⟨_, rfl⟩
theorem part_n {i j : Nat} {x : Pt} (h : pPart ws s "number" i = .ok (x, j)) : ∃ n, x = .n n := by
  unfold pPart at h
  rw [if_neg (by decide), if_pos rfl] at h
  split at h
  · cases h; exact ⟨_, rfl⟩
  · cases h
theorem part_s {k : Str} {i j : Nat} {x : Pt} (h : pPart ws s k i = .ok (x, j)) (h1 : k ≠ "expression" := by decide) (h2 : k ≠ "number" := by decide) : ∃ y, x = .s y := by
  unfold pPart at h
  rw [if_neg h1, if_neg h2] at h
  split at h
  · split at h
    · cases h; exact ⟨_, rfl⟩
    · cases h
  · cases h
theorem parts_cons {k : Str} {ks : List Str} {i j : Nat} {xs : List Pt} (h : pParts ws s (k :: ks) i = .ok (xs, j)) : ∃ x ys m, xs = x :: ys ∧ pPart ws s k i = .ok (x, m) ∧ pParts ws s ks m = .ok (ys, j) := by
  unfold pParts at h
  split at h
  · cases h
  · rename_i x m h1
    split at h
    · cases h
    · rename_i ys q h2
      cases h
      exact ⟨x, ys, m, rfl, h1, h2⟩
theorem parts_nil {i j : Nat} {xs : List Pt} (h : pParts ws s [] i = .ok (xs, j)) : xs = [] := by
  unfold pParts at h
  cases h
  rfl
theorem mk_d {w : Str} {i j : Nat} {xs : List Pt} (hw : w ∈ words) (h : pParts ws s (formOf w) i = .ok (xs, j)) : (mkStm w xs).d = .tuple (.str w :: xs.map Pt.d) := by
  simp only [words, List.mem_cons, List.not_mem_nil, or_false] at hw
  rcases hw with rfl | rfl | rfl | rfl | rfl | rfl | rfl
  · obtain ⟨x, ys, m, rfl, h1, h2⟩ := parts_cons (k := "variable") (ks := ["expression"]) h
    obtain ⟨y, zs, m2, rfl, h3, h4⟩ := parts_cons h2
    obtain rfl := parts_nil h4
    obtain ⟨a, rfl⟩ := part_s h1
    obtain ⟨b, rfl⟩ := part_e h3
    unfold mkStm
    rw [if_pos rfl]
    show (Stm.set a b).d = _
    unfold Stm.d
    rfl
  · obtain ⟨x, ys, m, rfl, h1, h2⟩ := parts_cons (k := "local") (ks := ["expression"]) h
    obtain ⟨y, zs, m2, rfl, h3, h4⟩ := parts_cons h2
    obtain rfl := parts_nil h4
    obtain ⟨a, rfl⟩ := part_s h1
    obtain ⟨b, rfl⟩ := part_e h3
    unfold mkStm
    rw [if_neg (by decide), if_pos rfl]
    show (Stm.lt a b).d = _
    unfold Stm.d
    rfl
  · obtain ⟨x, ys, m, rfl, h1, h2⟩ := parts_cons (k := "local") (ks := ["number"]) h
    obtain ⟨y, zs, m2, rfl, h3, h4⟩ := parts_cons h2
    obtain rfl := parts_nil h4
    obtain ⟨a, rfl⟩ := part_s h1
    obtain ⟨b, rfl⟩ := part_n h3
    unfold mkStm
    rw [if_neg (by decide), if_neg (by decide), if_pos rfl]
    show (Stm.draw a b).d = _
    unfold Stm.d
    rfl
  · obtain ⟨x, ys, m, rfl, h1, h2⟩ := parts_cons (k := "table") (ks := ["expression", "expression"]) h
    obtain ⟨y, zs, m2, rfl, h3, h4⟩ := parts_cons h2
    obtain ⟨z, us, m3, rfl, h5, h6⟩ := parts_cons h4
    obtain rfl := parts_nil h6
    obtain ⟨a, rfl⟩ := part_s h1
    obtain ⟨b, rfl⟩ := part_e h3
    obtain ⟨c, rfl⟩ := part_e h5
    unfold mkStm
    rw [if_neg (by decide), if_neg (by decide), if_neg (by decide), if_pos rfl]
    show (Stm.put a b c).d = _
    unfold Stm.d
    rfl
  · obtain ⟨x, ys, m, rfl, h1, h2⟩ := parts_cons (k := "local") (ks := ["lots", "expression"]) h
    obtain ⟨y, zs, m2, rfl, h3, h4⟩ := parts_cons h2
    obtain ⟨z, us, m3, rfl, h5, h6⟩ := parts_cons h4
    obtain rfl := parts_nil h6
    obtain ⟨a, rfl⟩ := part_s h1
    obtain ⟨b, rfl⟩ := part_s h3
    obtain ⟨c, rfl⟩ := part_e h5
    unfold mkStm
    rw [if_neg (by decide), if_neg (by decide), if_neg (by decide), if_neg (by decide), if_pos rfl]
    show (Stm.lot a b c).d = _
    unfold Stm.d
    rfl
  · obtain ⟨x, ys, m, rfl, h1, h2⟩ := parts_cons (k := "local") (ks := ["asked", "expression"]) h
    obtain ⟨y, zs, m2, rfl, h3, h4⟩ := parts_cons h2
    obtain ⟨z, us, m3, rfl, h5, h6⟩ := parts_cons h4
    obtain rfl := parts_nil h6
    obtain ⟨a, rfl⟩ := part_s h1
    obtain ⟨b, rfl⟩ := part_s h3
    obtain ⟨c, rfl⟩ := part_e h5
    unfold mkStm
    rw [if_neg (by decide), if_neg (by decide), if_neg (by decide), if_neg (by decide), if_neg (by decide), if_pos rfl]
    show (Stm.ask a b c).d = _
    unfold Stm.d
    rfl
  · obtain rfl := parts_nil (s := s) (ws := ws) (i := i) (j := j) h
    unfold mkStm
    rw [if_neg (by decide), if_neg (by decide), if_neg (by decide), if_neg (by decide), if_neg (by decide), if_neg (by decide)]
    unfold Stm.d
    rfl
theorem form_kinds {w k : Str} (hw : w ∈ words) (hk : k ∈ formOf w) : k ∈ kinds := by
  have all : ∀ w ∈ words, ∀ k ∈ formOf w, k ∈ kinds := by decide +kernel
  exact all w hw k hk
theorem parts_snoc : ∀ {ks : List Str} {k : Str} {i j m : Nat} {xs : List Pt} {y : Pt}, pParts ws s ks i = .ok (xs, j) → pPart ws s k j = .ok (y, m) → pParts ws s (ks ++ [k]) i = .ok (xs ++ [y], m)
  | [], k, i, j, m, xs, y, h1, h2 => by
    unfold pParts at h1
    cases h1
    show pParts ws s [k] i = _
    unfold pParts
    rw [h2]
    rfl
  | k0 :: ks, k, i, j, m, xs, y, h1, h2 => by
    obtain ⟨x, ys, q, rfl, e1, e2⟩ := parts_cons h1
    have ih := parts_snoc e2 h2
    show pParts ws s (k0 :: (ks ++ [k])) i = _
    unfold pParts
    rw [e1]
    dsimp only
    rw [ih]
    rfl
theorem parts_nol : ∀ xs : List Pt, nolAll (xs.map Pt.d) = true
  | [] => rfl
  | x :: xs => by show (Gm.nol x.d && nolAll (xs.map Pt.d)) = true; rw [Pt.nol x, parts_nol xs]; rfl
end
end Pz
set_option Elab.async false
set_option linter.all false
set_option maxRecDepth 100000
set_option maxHeartbeats 2000000
/-! Games: what is read. -/
namespace Pz
open PySem L2 Gm
abbrev Row := Str × Int × Int
section
variable (ws : List Str)
def nameAt (taken : List Str) (i : Nat) : Bool := isName (wd ws i) && !decide (wd ws i ∈ taken)
def numAt (lo hi : Int) (i : Nat) : Bool := isNum (wd ws i) && decide (lo ≤ (numW (wd ws i) : Nat) ∧ ((numW (wd ws i) : Nat) : Int) ≤ hi)
def numI (i : Nat) : Int := ((numW (wd ws i) : Nat) : Int)
def pVar (found : List Row) (i : Nat) : Except Nat (Row × Nat) :=
  if nameAt ws (found.map (·.1)) i = true then
    if numAt ws 1 65535 (i + 1) = true then
      if numAt ws 0 (numI ws (i + 1) - 1) (i + 2) = true then .ok ((wd ws i, numI ws (i + 1), numI ws (i + 2)), i + 3) else .error (i + 2)
    else .error (i + 1)
  else .error i
def pMap (found : List Row) (i : Nat) : Except Nat (Row × Nat) :=
  if nameAt ws (found.map (·.1)) i = true then
    if numAt ws 1 64 (i + 1) = true then
      if numAt ws 1 64 (i + 2) = true then .ok ((wd ws i, numI ws (i + 1), numI ws (i + 2)), i + 3) else .error (i + 2)
    else .error (i + 1)
  else .error i
/-- lines of a kind, at most f more -/
def pMany {α : Type} (kind : Str) (one : List α → Nat → Except Nat (α × Nat)) : Nat → List α → Nat → Except Nat (List α × Nat)
  | 0, found, i => .ok (found, i)
  | f + 1, found, i => if wd ws i = kind then (match one found (i + 1) with
      | .error j => .error j
      | .ok (x, j) => pMany kind one f (found ++ [x]) j)
    else .ok (found, i)
def pMore (vars : List Str) : Nat → List Str → Nat → Except Nat (List Str × Nat)
  | 0, found, i => .ok (found, i)
  | f + 1, found, i => if wd ws i = "local" then (if nameAt ws (vars ++ found) (i + 1) = true then pMore vars f (found ++ [wd ws (i + 1)]) (i + 2) else .error (i + 1)) else .ok (found, i)
def pLocals (vars : List Str) (i : Nat) : Except Nat (List Str × Nat) := if nameAt ws vars i = true then pMore ws vars 5 [wd ws i] (i + 1) else .error i
/-- the names around the procedures -/
structure Ctx where
  vars : List Str
  tabs : List Str
  lots : List Str
  asks : List Str
def Ctx.sc (c : Ctx) (locs : List Str) : Sc := ⟨locs, c.vars, c.tabs, c.lots, c.asks⟩
def pProc (c : Ctx) (found : List Pr) (i : Nat) : Except Nat (Pr × Nat) :=
  if nameAt ws (found.map (·.name)) i = true then
    if numAt ws 1 64 (i + 1) = true then
      if numAt ws 1 64 (i + 2) = true then
        match pLocals ws c.vars (i + 3) with
        | .error j => .error j
        | .ok (locs, j) => match pBlk ws (c.sc locs) 6 j with
          | .error m => .error m
          | .ok (b, m) => if wd ws m = "answer" then (match pExpr ws (c.sc locs) 7 (m + 1) with
              | .error q => .error q
              | .ok (e, q) => if wd ws q = "end" then .ok (⟨wd ws i, numI ws (i + 1), numI ws (i + 2), locs, b, e⟩, q + 1) else .error q)
            else .error m
      else .error (i + 2)
    else .error (i + 1)
  else .error i
def pGame (asks : List Str) : Except Nat Ga :=
  match pMany ws "var" (pVar ws) 6 [] 0 with
  | .error j => .error j
  | .ok (vs, j) => match pMany ws "table" (pMap ws) 6 [] j with
    | .error m => .error m
    | .ok (ts, m) => match pMany ws "lots" (pMap ws) 6 [] m with
      | .error n => .error n
      | .ok (os, n) => match pMany ws "proc" (pProc ws ⟨vs.map (·.1), ts.map (·.1), os.map (·.1), asks⟩) 6 [] n with
        | .error q => .error q
        | .ok (ps, q) => if q = ws.length then .ok ⟨vs, ts, os, ps⟩ else .error q
end
theorem isName_empty : isName Str.empty = false := by decide +kernel
theorem nameAt_ne {ws : List Str} {t : List Str} {i : Nat} (h : nameAt ws t i = true) : wd ws i ≠ Str.empty := fun z => by
  unfold nameAt at h
  rw [z, isName_empty] at h
  cases h
/-- what a name makes in the data: the first part of each item -/
def Heads (ds : List PyData) (names : List Str) : Prop := ds.length = names.length ∧ ∀ (i : Nat) (n : Str), names[i]? = some n → ∃ r, ds[i]? = some (.tuple (.str n :: r))
theorem heads_rows (rs : List Row) : Heads (rs.map trip) (rs.map (·.1)) := by
  refine ⟨by rw [List.length_map, List.length_map], fun i n h => ?_⟩
  rw [List.getElem?_map] at h
  obtain ⟨r, e, rfl⟩ := Option.map_eq_some_iff.mp h
  exact ⟨_, by rw [List.getElem?_map, e]; rfl⟩
theorem heads_procs (ps : List Pr) : Heads (ps.map Pr.d) (ps.map (·.name)) := by
  refine ⟨by rw [List.length_map, List.length_map], fun i n h => ?_⟩
  rw [List.getElem?_map] at h
  obtain ⟨r, e, rfl⟩ := Option.map_eq_some_iff.mp h
  exact ⟨_, by rw [List.getElem?_map, e]; rfl⟩
/-! ### what the defs promise -/
section
variable (C CR CG B : Addr) (K : PySem.W.Frag)
def spAnother : Sp := fun vs H Q _ => ∃ (p l f : Addr) (ws : List Str) (i : Nat) (k : Str) (xs : List V), vs = [.ref p, .str k, .ref f] ∧ WAt C H p l ws i ∧ k ≠ Str.empty ∧ SqL K H f xs ∧
  (if wd ws i = k ∧ xs.length ≠ 6 then ∀ H', But p H H' → WAt C H' p l ws (i + 1) → Q (.bl true) H' else Q (.bl false) H)
def spFirst : Sp := fun vs H Q _ => ∃ (a : Addr) (xs : List V) (ds : List PyData) (names : List Str), vs = [.ref a] ∧ (SqL K H a xs ∨ SqT K H a xs) ∧ DpAll K H xs ds ∧ nolAll ds = true ∧ Heads ds names ∧ xs.length < 1000000 ∧
  ∀ L H', Same H H' → H L = none → H' L = some (.lst (names.map V.str)) → Q (.ref L) H'
def spRows (kind : Option Str) (one : List Str → List Row → Nat → Except Nat (Row × Nat)) : Sp := fun vs H Q E => ∃ (p l : Addr) (ws : List Str) (i : Nat) (k : Str), (match kind with | some k' => vs = [.ref p] ∧ k = k' | none => vs = [.ref p, .str k]) ∧ k ≠ Str.empty ∧ WAt C H p l ws i ∧
  GEnd trips C B K p l ws H Q E (pMany ws k (one ws) 6 [] i)
def spLocals : Sp := fun vs H Q E => ∃ (p l a : Addr) (ws : List Str) (i : Nat) (vars : List Str), vs = [.ref p, .ref a] ∧ WAt C H p l ws i ∧ SqL K H a (vars.map V.str) ∧ vars.length ≤ 100 ∧ GEnd strD C B K p l ws H Q E (pLocals ws vars i)
/-- the names around the procedures, in a dict -/
def CtxAt (H : Hp) (nd : Addr) (c : Ctx) : Prop := ∃ a b d e, H nd = some (.dK [(.inr "variable", .ref a), (.inr "table", .ref b), (.inr "lots", .ref d), (.inr "asked", .ref e)]) ∧
  SqL K H a (c.vars.map V.str) ∧ SqL K H b (c.tabs.map V.str) ∧ SqL K H d (c.lots.map V.str) ∧ SqL K H e (c.asks.map V.str)
structure Ctx.Ok (c : Ctx) : Prop where
  v : Str.empty ∉ c.vars
  t : Str.empty ∉ c.tabs
  o : Str.empty ∉ c.lots
  a : Str.empty ∉ c.asks
  vl : c.vars.length ≤ 100
def spReader : Sp := fun vs H Q _ => ∃ (r p nd dx : Addr) (s : Sc), vs = [.ref r, .ref p, .ref nd] ∧ H r = some (.ins CR dx []) ∧ Names K H nd s ∧ s.vars.length ≤ 100 ∧ s.locs.length ≤ 100 ∧ ∀ H', But r H H' → RAt CR K H' r p s → Q .non H'
def spProc : Sp := fun vs H Q E => ∃ (p l nd t : Addr) (ws : List Str) (i : Nat) (c : Ctx) (found : List Pr), vs = [.ref p, .ref nd, .ref t] ∧ WAt C H p l ws i ∧ CtxAt K H nd c ∧ c.Ok ∧ SqL K H t ((found.map (·.name)).map V.str) ∧ GEnd Pr.d C B K p l ws H Q E (pProc ws c found i)
def procsD (ps : List Pr) : PyData := .tuple (ps.map Pr.d)
def spProcs : Sp := fun vs H Q E => ∃ (p l nd : Addr) (ws : List Str) (i : Nat) (c : Ctx), vs = [.ref p, .ref nd] ∧ WAt C H p l ws i ∧ CtxAt K H nd c ∧ c.Ok ∧ GEnd procsD C B K p l ws H Q E (pMany ws "proc" (pProc ws c) 6 [] i)
/-- a game at an address -/
def GameAt (H : Hp) (r : Addr) (g : Ga) : Prop := ∃ dx fs v1 v2 v3 v4, H r = some (.ins CG dx fs) ∧ fs.lookup ("variables" : Str) = some v1 ∧ fs.lookup ("tables" : Str) = some v2 ∧ fs.lookup ("lots" : Str) = some v3 ∧ fs.lookup ("procs" : Str) = some v4 ∧
  (∀ x : Str, x ≠ "variables" → x ≠ "tables" → x ≠ "lots" → x ≠ "procs" → fs.lookup x = none) ∧ Dp K H v1 (trips g.vars) ∧ Dp K H v2 (trips g.tabs) ∧ Dp K H v3 (trips g.lots) ∧ Dp K H v4 (procsD g.procs)
def spGInit : Sp := fun vs H Q _ => ∃ (r dx : Addr) (v1 v2 v3 v4 : V), vs = [.ref r, v1, v2, v3, v4] ∧ H r = some (.ins CG dx []) ∧ ∀ H' fs, But r H H' → H' r = some (.ins CG dx fs) → fs.lookup ("variables" : Str) = some v1 → fs.lookup ("tables" : Str) = some v2 → fs.lookup ("lots" : Str) = some v3 → fs.lookup ("procs" : Str) = some v4 →
  (∀ x : Str, x ≠ "variables" → x ≠ "tables" → x ≠ "lots" → x ≠ "procs" → fs.lookup x = none) → Q .non H'
def spGame : Sp := fun vs H Q E => ∃ (x : Str) (a : Addr) (asks : List Str), vs = [.str x, .ref a] ∧ x.length ≤ 900000 ∧ (toWords x).length < 1000000 ∧ (∀ w ∈ toWords x, w.length ≤ 1000000) ∧ SqT K H a (asks.map V.str) ∧ (∀ w ∈ asks, w.length ≤ 1000000) ∧ asks.length ≤ 1000 ∧
  match pGame (toWords x) (asks.filter isName) with
  | .ok g => ∀ r H', Same H H' → GameAt CG K H' r g → Q (.ref r) H'
  | .error j => ∀ d H', Same H H' → H' d = some (.xd [("at", .int j)]) → E (.ref B) (some d) H'
end
def kv4 (a b d e : V) : List (Key × V) := [((.inr "variable" : Key), a), (.inr "table", b), (.inr "lots", d), (.inr "asked", e)]
theorem merge4 (a b d e : V) : mergeK [] [((.inr "variable" : Key), a), (.inr "table", b), (.inr "lots", d), (.inr "asked", e)] = [(.inr "variable", a), (.inr "table", b), (.inr "lots", d), (.inr "asked", e)] := by rfl
theorem put5 (a b d e f : V) : putK [((.inr "variable" : Key), a), (.inr "table", b), (.inr "lots", d), (.inr "asked", e)] (.inr "local") f = [(.inr "variable", a), (.inr "table", b), (.inr "lots", d), (.inr "asked", e), (.inr "local", f)] := by rfl
theorem names_ctx {K : PySem.W.Frag} {H : Hp} {nd a b d e t : Addr} {c : Ctx} {locs : List Str} (h : H nd = some (.dK [(.inr "variable", .ref a), (.inr "table", .ref b), (.inr "lots", .ref d), (.inr "asked", .ref e), (.inr "local", .ref t)]))
    (ha : SqL K H a (c.vars.map V.str)) (hb : SqL K H b (c.tabs.map V.str)) (hd : SqL K H d (c.lots.map V.str)) (he : SqL K H e (c.asks.map V.str)) (ht : SqT K H t (locs.map V.str)) : Names K H nd (c.sc locs) := by
  refine ⟨_, h, fun k => ?_⟩
  unfold kindNames
  by_cases h1 : k = "variable"
  · subst h1
    exact ⟨a, rfl, .inl ha⟩
  · rw [if_neg h1]
    by_cases h2 : k = "local"
    · subst h2
      exact ⟨t, rfl, .inr ⟨rfl, ht⟩⟩
    · rw [if_neg h2]
      by_cases h3 : k = "table"
      · subst h3
        exact ⟨b, rfl, .inl hb⟩
      · rw [if_neg h3]
        by_cases h4 : k = "lots"
        · subst h4
          exact ⟨d, rfl, .inl hd⟩
        · rw [if_neg h4]
          by_cases h5 : k = "asked"
          · subst h5
            exact ⟨e, rfl, .inl he⟩
          · rw [if_neg h5]
            rw [valV_neg (fun z => h1 (Sum.inr.inj z).symm), valV_neg (fun z => h3 (Sum.inr.inj z).symm), valV_neg (fun z => h4 (Sum.inr.inj z).symm), valV_neg (fun z => h5 (Sum.inr.inj z).symm), valV_neg (fun z => h2 (Sum.inr.inj z).symm)]
            rfl
/-! ### names that were read are names -/
theorem more_ok {ws : List Str} {vars : List Str} : ∀ {f : Nat} {found : List Str} {i j : Nat} {locs : List Str}, Str.empty ∉ found → found.length + f ≤ 6 → pMore ws vars f found i = .ok (locs, j) → Str.empty ∉ locs ∧ locs.length ≤ 6
  | 0, found, i, j, locs, h, hl, e => by
    unfold pMore at e
    cases e
    exact ⟨h, by omega⟩
  | f + 1, found, i, j, locs, h, hl, e => by
    unfold pMore at e
    split at e
    · split at e
      · rename_i h1
        refine more_ok (fun z => ?_) ?_ e
        · rcases List.mem_append.mp z with z | z
          · exact h z
          · exact nameAt_ne h1 (List.mem_singleton.mp z).symm
        · rw [List.length_append]
          show found.length + 1 + f ≤ 6
          omega
      · cases e
    · cases e
      exact ⟨h, by omega⟩
theorem locals_ok {ws : List Str} {vars : List Str} {i j : Nat} {locs : List Str} (e : pLocals ws vars i = .ok (locs, j)) : Str.empty ∉ locs ∧ locs.length ≤ 6 := by
  unfold pLocals at e
  split at e
  · rename_i h1
    exact more_ok (fun z => nameAt_ne h1 (List.mem_singleton.mp z).symm) (Nat.le_refl 6) e
  · cases e
theorem But.all {p : Addr} {H0 H H' : Hp} (h0 : H0 p = none) (s : Same H0 H) (b : But p H H') : Same H0 H' := fun a o e => b a o (s a o e) (ne_of_none e h0)
theorem many_ok {ws : List Str} {α : Type} {k : Str} {nm : α → Str} {one : List α → Nat → Except Nat (α × Nat)} (h1 : ∀ f i x j, one f i = .ok (x, j) → nm x ≠ Str.empty) : ∀ {f : Nat} {found : List α} {i j : Nat} {rs : List α}, (∀ x ∈ found, nm x ≠ Str.empty) → found.length + f ≤ 6 → pMany ws k one f found i = .ok (rs, j) → (∀ x ∈ rs, nm x ≠ Str.empty) ∧ rs.length ≤ 6
  | 0, found, i, j, rs, h, hl, e => by
    unfold pMany at e
    cases e
    exact ⟨h, by omega⟩
  | f + 1, found, i, j, rs, h, hl, e => by
    unfold pMany at e
    split at e
    · split at e
      · cases e
      · rename_i x m hx
        refine many_ok h1 (fun y hy => ?_) ?_ e
        · rcases List.mem_append.mp hy with z | z
          · exact h y z
          · rw [List.mem_singleton.mp z]
            exact h1 _ _ _ _ hx
        · rw [List.length_append]
          show found.length + 1 + f ≤ 6
          omega
    · cases e
      exact ⟨h, by omega⟩
theorem var_name {ws : List Str} (f : List Row) (i : Nat) (x : Row) (j : Nat) (e : pVar ws f i = .ok (x, j)) : x.1 ≠ Str.empty := by
  unfold pVar at e
  split at e
  · rename_i h1
    split at e
    · split at e
      · cases e
        exact nameAt_ne h1
      · cases e
    · cases e
  · cases e
theorem map_name {ws : List Str} (f : List Row) (i : Nat) (x : Row) (j : Nat) (e : pMap ws f i = .ok (x, j)) : x.1 ≠ Str.empty := by
  unfold pMap at e
  split at e
  · rename_i h1
    split at e
    · split at e
      · cases e
        exact nameAt_ne h1
      · cases e
    · cases e
  · cases e
theorem not_empty {rs : List Row} (h : ∀ x ∈ rs, x.1 ≠ Str.empty) : Str.empty ∉ rs.map (·.1) := fun z => by
  obtain ⟨x, hx, e⟩ := List.mem_map.mp z
  exact h x hx e
end Pz
set_option Elab.async false
set_option linter.all false
set_option maxRecDepth 100000
set_option maxHeartbeats 4000000
/-! A list comprehension whose element may raise: the exception of a call leaves the block, and the def. -/
namespace Mine
open PySem PySem.Calls L2 PyProof.Rows
/-- what a call within a block let out -/
def XC (Y : Cx) (E : XK) : Value → Shared → Prop := fun u t => ∃ (pins : List (Addr × Obj)) (σ : L2.St) (H : Hp) (s : Shared), Inv Y pins σ H s ∧ L2.CX Y.prog Y.w Y.stack H s E u t
/-- the block's context, where calls may raise -/
abbrev xb (Y : Cx) (E : XK) : Cx := { Y with xe := XC Y E }
section
variable {Y : Cx} {E : XK} {pins : List (Addr × Obj)} {σ : L2.St} {H : Hp} {s : Shared}
theorem xb_to (I : Inv (xb Y E) pins σ H s) : Inv Y pins σ H s :=
  ⟨⟨I.ok.mod, I.ok.kind, I.ok.glob, I.ok.blt, I.ok.above, I.ok.inj, I.ok.has, I.ok.cab, I.ok.hd, I.ok.frames, I.ok.stk, I.ok.exf, I.ok.bs, I.ok.bsz, I.ok.noex, I.ok.exfs, I.ok.funs, I.ok.frf⟩, I.os, I.bare, I.base, I.loc, I.cell, I.free, I.freeC, I.pin, I.hok, I.len⟩
theorem xb_of (I : Inv Y pins σ H s) : Inv (xb Y E) pins σ H s :=
  ⟨⟨I.ok.mod, I.ok.kind, I.ok.glob, I.ok.blt, I.ok.above, I.ok.inj, I.ok.has, I.ok.cab, I.ok.hd, I.ok.frames, I.ok.stk, I.ok.exf, I.ok.bs, I.ok.bsz, I.ok.noex, I.ok.exfs, I.ok.funs, I.ok.frf⟩, I.os, I.bare, I.base, I.loc, I.cell, I.free, I.freeC, I.pin, I.hok, I.len⟩
end
/-- a call within the block may raise -/
theorem passC {Y : Cx} {E : XK} : Passes (L2.CX Y.prog Y.w) (xb Y E) E := fun pins σ H s _ _ I c => ⟨pins, σ, H, s, xb_to I, c⟩
theorem noted_as {e : Value} {env env' : Env} (h : env.frame = env'.frame) : noteFrame e env = noteFrame e env' := by
  unfold noteFrame PySem.frameOf
  rw [h]
theorem frames_as {B B' h h' : Heap} : ∀ {l : List Env}, (∀ L ∈ frs l, B'.get? L = none) → (∀ L ∈ frs l, h'.get? L = h.get? L) → h.FunFrames B l → h'.FunFrames B' l
  | [], _, _, _ => trivial
  | env :: l, hn, hs, ⟨hk, ⟨L, o, hf, _, ho, hd⟩, hr⟩ => by
    have hL : L ∈ frs (env :: l) := List.mem_filterMap.mpr ⟨env, List.mem_cons_self, hf⟩
    have sub : ∀ b ∈ frs l, b ∈ frs (env :: l) := fun b hb => by
      obtain ⟨e, he, q⟩ := List.mem_filterMap.mp hb
      exact List.mem_filterMap.mpr ⟨e, List.mem_cons_of_mem _ he, q⟩
    exact ⟨hk, ⟨L, o, hf, hn L hL, (hs L hL).trans ho, hd⟩, frames_as (fun b hb => hn b (sub b hb)) (fun b hb => hs b (sub b hb)) hr⟩
/-- how a comprehension's block ends -/
def CPost (M : Model) (A : Around) (E : Value → Shared → Prop) (Q : Value → Shared → Prop) (acc : Value) (ce : Env) (r : Result) (t : Shared) : Prop :=
  match r with
  | .ok _ => ∃ m, t.heap.Ns ce.locals m ∧ ∀ h', Heap.SameBut ce.locals t.heap h' → Q acc { t with heap := h' }
  | .error x => ∃ m, t.heap.Ns ce.locals m ∧ ∀ h', Heap.SameBut ce.locals t.heap h' → wpAny M A (passOn "comprehension.variables-let-go" x ce : Sem Value) Q E { t with heap := h' }
theorem comp_cx {M : Model} {A : Around} {E : Value → Shared → Prop} {s : Shared} {env : Env} {e : Expr} {scope : Scope} {pos : Pos} {newAcc first : Sem Value} {g : Comprehension} {gs : List Comprehension} {cl : List (Str × Addr)} {Q : Value → Shared → Prop}
    (h1 : clausesOf e = g :: gs) (h2 : ∀ x, foldedSetIterable g.iter env x = pure x) (h3 : closureFor scope env = pure cl) (h4 : scope.kind = .function) (h5 : ∀ x ∈ scope.names, x.2 = .local → scope.names.lookup x.1 = some .local)
    (h : wpAny M A first (fun x t1 => wpAny M A (pyIter x) (fun it t2 => wpAny M A newAcc (fun acc t3 => wpAny M A (newFunctionEnv scope env.globals cl [] env.qual none .none (some env)) (fun ce t4 =>
      codeAny M A (.compStart e 0 it acc { ce with scope := relabel scope env }) (CPost M A E Q acc { ce with scope := relabel scope env }) t4) E t3) E t2) E t1) E s) :
    wpAny M A (comprehension e scope env pos newAcc false first none) Q E s := by
  unfold comprehension
  rw [h3, h1]
  refine wpAny_bind (wpAny_mono h (fun x t1 k1 => ?_) fun _ _ z => z)
  refine wpAny_bind (wpAny_standAt (wpAny_bind (wpAny_of_eq (h2 x) ?_)))
  refine wpAny_bind (wpAny_holding (wpAny_mono k1 (fun it t2 k2 => ?_) fun _ _ z => z))
  refine wpAny_standIf (wpAny_bind (wpAny_mono k2 (fun acc t3 k3 => ?_) fun _ _ z => z))
  refine wpAny_bind (wpAny_pure (wpAny_bind (wpAny_mono k3 (fun ce t4 k4 => ?_) fun _ _ z => z)))
  dsimp only
  have hv : ∀ x ∈ (scope.names.filter fun x => (x.2 == .local || x.2 == .cell) && x.1 != (".0" : Str)).reverse, x.2 = .local → Env.kindOf { ce with scope := relabel scope env } x.1 = some .local := fun x hx hl =>
    lookup_relabel_local (h5 x (List.mem_filter.mp (List.mem_reverse.mp hx)).1 hl)
  refine wpAny_holding (wpAny_bind (wpAny_attempt (wpAny_holding (wpAny_run (codeAny_mono k4 fun r t hr => ?_)))))
  cases r with
  | ok f =>
    obtain ⟨m, hn, q⟩ := hr
    refine wpAny_bind (wpAny_holding (wpAny_comp_letGo (cenv := { ce with scope := relabel scope env }) h4 _ t m hv hn fun h' m' _ sb => ?_))
    exact wpAny_pure (q h' sb)
  | error x =>
    obtain ⟨m, hn, q⟩ := hr
    exact wpAny_bind (wpAny_holding (wpAny_comp_letGo (cenv := { ce with scope := relabel scope env }) h4 _ t m hv hn fun h' m' _ sb => q h' sb))
section
variable {X : Cx} {W : WX} {E : XK} {pins : List (Addr × Obj)} {σ : L2.St} {H3 : Hp} {s3 : Shared}
/-- the exception of a call within the block: noted, the block's names let go, raised on -/
theorem blk_out {scope : Scope} {ce : Env} {fp : List Addr} {acc : Value} {Q : Value → Shared → Prop} {E2 : Value → Shared → Prop} {u : Value} {t : Shared} (tk : Takes X W) (hW : ∀ cls d σ H, E cls d H → W cls d σ H) (hst : X.stack = X.env :: X.outer) (hf : X.env.frame = some X.env.locals)
    (I3 : Inv X pins σ H3 s3) (f3 : ∀ b ∈ fp, FpOk X pins H3 b ∧ b < s3.heap.objs.size) (hC : ce.locals = s3.heap.objs.size) (hcf : ce.frame = X.env.frame) (h : XC (X.blk s3 H3 scope ce fp) E u t) :
    wpAny (model X.prog X.w) X.A (noteFrame u ce) (fun _ t1 => CPost (model X.prog X.w) X.A X.xe Q acc ce (.error u) t1) E2 t := by
  obtain ⟨py, σy, H, s, Iy, a, B, H', cls, d, rfl, fl, hok, ub, na, os, ag, hE⟩ := h
  have fl : HandSPX.FlyingZ B X.stack a (Zc cls d) t.heap := fl
  have ub : UB (frs X.stack) H H' s.heap B t.heap := ub
  have hfr : X.A.frames = some (X.env :: X.outer) := by rw [I3.ok.frames, hst]
  generalize hCe : ce.locals = C at hC
  -- the block's own object
  have hlow : ∀ b o, s3.heap.get? b = some o → b ≠ C := fun b o e z => by
    rw [z, hC] at e
    exact absurd (Heap.lt_size e) (Nat.lt_irrefl _)
  have nfr : ∀ b ∈ frs X.stack, b ≠ C := fun b hb => by
    obtain ⟨_, o, e, _⟩ := I3.stack.mem hb
    exact hlow b o e
  have Cfr : C ∉ frs X.stack := fun hb => nfr C hb rfl
  have HC : H C = none := by
    have z : H ce.locals = none := Iy.free
    rw [hCe] at z
    exact z
  obtain ⟨m, hn, _⟩ := Iy.loc
  have hn : s.heap.Ns ce.locals m := hn
  rw [hCe] at hn
  obtain ⟨oC, es, ep, eC, rC⟩ := hn
  have BC : B.get? C = some oC := ub.keep C oC eC HC Cfr
  have H'C : H' C = none := ub.free C oC eC HC
  rw [noted_as hcf]
  rw [hst] at fl
  refine HandSPX.looks_onZ Zc.steady hfr hf fl fun h1 hh up1 => ?_
  rw [← hst] at hh
  obtain ⟨k1, k2, k3, oe, vs, T, oT, ts, he, hz, hd, hv, hnT, hTe, hT, hdT, h3⟩ := hh
  have aC : a ≠ C := fun z => by rw [z, BC] at k2; cases k2
  have TC : T ≠ C := fun z => by rw [z, BC] at hnT; cases hnT
  show CPost _ _ _ _ _ _ (.error (.ref a)) _
  refine ⟨m, ?_, fun h' sb => ?_⟩
  · rw [hCe]
    exact ⟨oC, es, ep, k1 _ _ BC, rC⟩
  rw [hCe] at sb
  -- the ground without the block's object
  obtain ⟨G, g1, g2⟩ := restrict B fun b => decide (b ≠ C)
  have gB : ∀ b o, G.get? b = some o → b ≠ C ∧ B.get? b = some o := fun b o e => by
    by_cases hb : b = C
    · rw [g2 b (by simp [hb])] at e
      cases e
    · rw [g1 b (by simp [hb])] at e
      exact ⟨hb, e⟩
  have Bg : ∀ b o, b ≠ C → B.get? b = some o → G.get? b = some o := fun b o hb e => by
    rw [g1 b (by simp [hb])]
    exact e
  have gN : ∀ b, B.get? b = none → G.get? b = none := fun b e => by
    cases q : G.get? b with
    | none => rfl
    | some o =>
      rw [(gB b o q).2] at e
      cases e
  have held : HandSPX.HeldZ G X.stack a (Zc cls d) X.env.locals h' := by
    refine ⟨fun b o e => ?_, gN a k2, frames_as (fun L hL => gN L (k3.mem hL).1) (fun L hL => sb.2 L (nfr L hL)) k3, oe, vs, T, oT, ts, (sb.2 a aC).trans he, hz, hd, hv, gN T hnT, hTe, (sb.2 T TC).trans hT, hdT, h3⟩
    exact (sb.2 b (gB b o e).1).trans (k1 b o (gB b o e).2)
  unfold PySem.passOn
  obtain ⟨_, _, _, oe', vs', T', oT', ts', he', _, hd', hv', _⟩ := id held
  refine wpAny_bind (wpAny_field (s := { t with heap := h' }) he' hd' hv' ?_)
  rw [if_neg (show ¬ ((Value.ref T' == Value.none) = true) from by simp)]
  have fin : wpAny (model X.prog X.w) X.A (setFlight (.ref a) ce.frame) (fun _ s7 => wpAny (model X.prog X.w) X.A (throw (.ref a) : Sem Value) Q X.xe s7) X.xe { t with heap := h' } := by
    rw [hcf, hf]
    refine HandSPX.setFlight_onZ held fun h2 hh2 up2 => wpAny_throw (tk _ _ ?_)
    -- the state ahead of the exception
    obtain ⟨S, q1, q2⟩ := restrict h2 fun b => (G.get? b).isSome || decide (b ∈ frs X.stack)
    have gS : ∀ b o, G.get? b = some o → S.get? b = some o := fun b o e => by
      rw [q1 b (by simp [e])]
      exact hh2.1 b o e
    have fS : ∀ b, b ∈ frs X.stack → S.get? b = h2.get? b := fun b hb => q1 b (by simp [hb])
    have oS : ∀ b o, S.get? b = some o → h2.get? b = some o ∧ ((G.get? b).isSome = true ∨ b ∈ frs X.stack) := fun b o e => by
      cases z : ((G.get? b).isSome || decide (b ∈ frs X.stack)) with
      | false =>
        rw [q2 b z] at e
        cases e
      | true =>
        rw [q1 b z] at e
        exact ⟨e, by simpa [Bool.or_eq_true] using z⟩
    have slotF : ∀ b o, s3.heap.get? b = some o → H3 b = none → b ∈ frs X.stack → b ∉ fp → ∃ sl, S.get? b = some { o with slots := sl } := fun b o e n hb hx => by
      obtain ⟨_, o', e', hnf⟩ := I3.stack.mem hb
      rw [e] at e'
      cases e'
      obtain ⟨sl1, e1⟩ := Iy.base.slot b o e n hb hx
      obtain ⟨sl2, e2⟩ := ub.slot b _ e1 hb
      obtain ⟨sl3, e3⟩ := up1 b _ e2 hnf
      obtain ⟨sl4, e4⟩ := up2 b _ ((sb.2 b (nfr b hb)).trans e3) hnf
      exact ⟨sl4, by rw [fS b hb]; exact e4⟩
    have okG : HOk X.prog X.w H' G := fun b o q => (hok b o q).stay (fun c v hc r => Bg c v (fun z => by
        rcases hc with hc | hc
        · rw [z] at hc
          rw [← hc, H'C] at q
          cases q
        · rw [z, H'C] at hc
          cases hc) r) (fun _ r => r) fun _ _ r => r
    refine ⟨a, G, { s3 with heap := S, gens := t.gens, drawn := t.drawn, toks := t.toks }, pins, σ, H', cls, d, rfl, ?_, fun b o e hb => ?_, Heap.UpToSlots.of_keeps fun b o e => (oS b o e).1, .inr (.inr hh2), na, os.trans Iy.os, ag, hW _ _ _ _ hE⟩
    · refine I3.call' (ch := fp) rfl ⟨fun b o e n hb hx => ?_, fun b o e n hb hx => slotF b o e n hb hx, fun b o e n hx => ?_, fun b o e hx => ?_, fun b xs e => ub.tups b xs (Iy.base.tups b xs e), fun b o xs e => ub.frzs b o xs (Iy.base.frzs b o xs e), fun b ps e => ?_⟩
        (okG.kept gS) ag fun b hb => ⟨(f3 b hb).1.2.2.2.1, (f3 b hb).1.2.1, (f3 b hb).1.2.2.2.2.1, (f3 b hb).1.2.2.2.2.2⟩
      · exact gS b o (Bg b o (hlow b o e) (ub.keep b o (Iy.base.keep b o e n hb hx) (Iy.base.free b o e n hx) hb))
      · obtain ⟨o', e'⟩ := Iy.base.there b o e hx
        exact ub.free b o' e' (Iy.base.free b o e n hx)
      · by_cases hb : b ∈ frs X.stack
        · obtain ⟨sl, z⟩ := slotF b o e (I3.stkFree b hb) hb hx
          exact ⟨_, z⟩
        · obtain ⟨o', e'⟩ := Iy.base.there b o e hx
          obtain ⟨o2, e2⟩ := ub.there b o' e' hb
          exact ⟨o2, gS b o2 (Bg b o2 (hlow b o e) e2)⟩
      · obtain ⟨m1, e1⟩ := Iy.base.tbls b ps e
        obtain ⟨m2, e2⟩ := ub.tbls b _ e1
        exact ⟨m1 ++ m2, by rw [e2, Array.append_assoc]⟩
    · obtain ⟨e', z⟩ := oS b o e
      rcases z with z | z
      · obtain ⟨o', q⟩ := Option.isSome_iff_exists.mp z
        have w := gS b o' q
        rw [e] at w
        cases w
        exact q
      · exact absurd z hb
  first
    | exact wpAny_bind (wpAny_pure (wpAny_bind fin))
    | exact wpAny_bind fin
end
section
variable {X : Cx} {W : WX} {E : XK}
theorem pe_lcX {elt tg iter : Expr} {ifs : List Expr} {scope : Scope} {own : List (Str × Nat)} {pos : Pos} {wi : TI} {g : TG} {tt : TT} {te : TE} (tk : Takes X W) (hW : ∀ cls d σ H, E cls d H → W cls d σ H) (hst : X.stack = X.env :: X.outer) (hf : X.env.frame = some X.env.locals)
    (hc : X.calm = true) (hN : X.N.Nodup) (hi : PI X tg iter wi) (ok : BlkOk X.N X.env.scope scope own)
    (hg : ∀ (s : Shared) (H : Hp) (C : Addr) (cl : List (Str × Addr)) (fp : List Addr), PG (X.blk s H scope (compEnvC scope cl C X.env) fp) tg g)
    (ht : ∀ (s : Shared) (H : Hp) (C : Addr) (cl : List (Str × Addr)) (fp : List Addr), PTs (X.blk s H scope (compEnvC scope cl C X.env) fp) ifs tt)
    (he : ∀ (s : Shared) (H : Hp) (C : Addr) (cl : List (Str × Addr)) (fp : List Addr), PE (xb (X.blk s H scope (compEnvC scope cl C X.env) fp) E) elt te) (hs : ∀ x, foldedSetIterable iter X.env x = pure x := by intro _; rfl) :
    PE X (.ListComp elt [⟨tg, iter, ifs, 0⟩] scope pos) (tLc wi g tt te (own.map (·.2))) := by
  refine ⟨fun pins s σ H Q I h => ?_⟩
  rw [eval_ListComp]
  have hfree : ∀ y ∈ scope.names, y.2 = .free → ∃ c, X.env.cells.lookup y.1 = some c := fun y hy e => by
    rcases ok.free y hy e with k | k
    · exact I.ok.has _ (.inl k)
    · exact I.ok.has _ (.inr k)
  refine comp_cx (Q := EP X pins σ Q) rfl hs (closure_ok hfree) ok.kind (fun y hy e => by rw [ok.uniq y hy, e]) (thn (hi.run pins s σ H _ I h) fun xv s1 hx => thn hx fun itv s2 h2 => ?_)
  obtain ⟨it, fp, tn, J, H2, e, I2, T, st2, f2, q⟩ := h2
  subst e
  refine wpAny_newObj_type (newEnv_comp ?_) (by show 0 ≤ sizeLine; decide)
  generalize hD : s2.heap.objs.size = D
  have nD : H2 D = none := I2.hok.fresh (Nat.le_of_eq hD)
  obtain ⟨V, ⟨m0, w0⟩, turn⟩ := q D nD
  generalize hs3 : ({ s2 with heap := s2.heap.push { cls := .type "list", data := .seq ([] : List Value).toArray } } : Shared) = s3
  have h3 : s3.heap = s2.heap.push { cls := .type "list", data := .seq ([] : List Value).toArray } := by rw [← hs3]
  have I3 : Inv X pins σ (upd H2 D (.lst [])) s3 := by
    rw [← hs3]
    refine I2.laid (t' := s2.toks) (fun b o e => Heap.get?_push_of_some _ e) (Nat.le_of_eq hD) ⟨Nat.zero_le _, [], 0, .nil, ?_⟩
    rw [← hD]
    exact Heap.get?_push_size _ rfl
  have below : ∀ b ∈ fp, b < s2.heap.objs.size := fun b hb => let ⟨_, e, _⟩ := T.obj _ _ st2 b hb; Heap.lt_size e
  have f3 : ∀ b ∈ fp, FpOk X pins (upd H2 D (.lst [])) b ∧ b < s3.heap.objs.size := fun b hb => by
    have lt := below b hb
    refine ⟨⟨?_, (f2 b hb).2⟩, by rw [h3, Heap.size_push]; exact Nat.lt_succ_of_lt lt⟩
    rw [upd_ne (by rw [← hD]; exact Nat.ne_of_lt lt)]
    exact (f2 b hb).1
  have st3 : tn 0 s3.heap := T.keep _ _ _ st2 fun b _ o e => by rw [h3]; exact Heap.get?_push_of_some _ e
  have I4 := block_start I3 ok hN f3
  have kg := hg s3 (upd H2 D (.lst [])) s3.heap.objs.size (cellsFrom (s3.heap.objs.size + 1) scope.names (cloFrom X.env.cells scope.names [])) fp
  have kt := ht s3 (upd H2 D (.lst [])) s3.heap.objs.size (cellsFrom (s3.heap.objs.size + 1) scope.names (cloFrom X.env.cells scope.names [])) fp
  have ke := he s3 (upd H2 D (.lst [])) s3.heap.objs.size (cellsFrom (s3.heap.objs.size + 1) scope.names (cloFrom X.env.cells scope.names [])) fp
  show codeAny _ _ (.compStart (.ListComp elt [⟨tg, iter, ifs, 0⟩] scope pos) 0 (.ref it) (.ref D) (compEnvC scope (cellsFrom (s3.heap.objs.size + 1) scope.names (cloFrom X.env.cells scope.names [])) s3.heap.objs.size X.env))
    (CPost (model X.prog X.w) X.A X.xe (EP X pins σ Q) (.ref D) (compEnvC scope (cellsFrom (s3.heap.objs.size + 1) scope.names (cloFrom X.env.cells scope.names [])) s3.heap.objs.size X.env)) { s3 with heap := pushCells (s3.heap.push { cls := .type "dict", data := .dict #[] }) scope.names }
  generalize hce : compEnvC scope (cellsFrom (s3.heap.objs.size + 1) scope.names (cloFrom X.env.cells scope.names [])) s3.heap.objs.size X.env = ce at I4 kg kt ke ⊢
  have cL : ce.locals = s3.heap.objs.size := by subst hce; rfl
  have cF : ce.frame = X.env.frame := by subst hce; rfl
  generalize hH3 : upd H2 D (.lst []) = H3 at I3 I4 kg kt ke w0 f3
  have nfp : ∀ b ∈ fp, H3 b = none := fun b hb => (f3 b hb).1.1
  generalize hs4 : ({ s3 with heap := pushCells (s3.heap.push { cls := .type "dict", data := .dict #[] }) scope.names } : Shared) = s4 at I4 ⊢
  have st4 : tn 0 s4.heap := T.keep _ _ _ st3 fun b _ o e => by rw [← hs4]; exact pushCells_keeps _ _ _ _ (Heap.get?_push_of_some _ e)
  have lie : ∀ {σ' : L2.St} {H' : Hp} {s' : Shared}, Inv (X.blk s3 H3 scope ce fp) [] σ' H' s' → (∀ b ∈ fp, H' b = none) → ∀ b ∈ fp, FpOk (X.blk s3 H3 scope ce fp) [] H' b := fun {σ' H' s'} J hn b hb =>
    ⟨hn b hb, (J.ok.exf b hb).1, J.ok.exfs b hb, .inl hb, fun x c e => (J.ok.exf b hb).2 x c e, fun p hp => absurd (show p ∈ ([] : List (Addr × Obj)) ++ [] from hp) (by simp)⟩
  have loop : codeAny (model X.prog X.w) X.A (.compLoop (.ListComp elt [⟨tg, iter, ifs, 0⟩] scope pos) 0 (.ref it) (.ref D) ce) (CPost (model X.prog X.w) X.A X.xe (EP X pins σ Q) (.ref D) ce) s4 := by
    refine compLoop_any (fun n s' => ∃ i H', Inv (X.blk s3 H3 scope ce fp) [] (wipe σ (own.map (·.2))) H' s' ∧ tn i s'.heap ∧ (∀ b ∈ fp, H' b = none) ∧ V i n H') ?_ m0 ⟨0, H3, I4, st4, nfp, w0⟩
    rintro n s5 ⟨i, H5, I5, st5, n5, w5⟩
    rcases turn i n H5 w5 with ⟨stop, qq⟩ | ⟨go, Nx, hNx, step⟩
    · refine thnF (T.done (X.blk s3 H3 scope ce fp) rfl rfl rfl hc i [] s5 _ H5 (fun _ _ => False) I5 (lie I5 n5) st5 stop) fun r s6 ⟨hr, I6⟩ => ?_
      subst hr
      have I7 : Inv X pins σ H5 s6 := I3.call' (ch := fp) I6.os I6.base I6.hok I6.bare fun b hb => ⟨(f3 b hb).1.2.2.2.1, (f3 b hb).1.2.1, (f3 b hb).1.2.2.2.2.1, (f3 b hb).1.2.2.2.2.2⟩
      have nC : H5 s3.heap.objs.size = none := by
        have z : H5 ce.locals = none := I6.free
        rw [cL] at z
        exact z
      obtain ⟨m, hn, _⟩ := I6.loc
      have hn : s6.heap.Ns ce.locals m := hn
      refine ⟨m, hn, fun h' sb => ?_⟩
      rw [cL] at sb
      obtain ⟨p0, p1, p2, p3, p4, p5⟩ := I3.fpOk (H' := H5) (Nat.le_refl _) nC
      exact ⟨.ref D, H5, I7.turned (t' := s6.toks) (fun b o hb e => (sb.2 b hb).trans e) p0 p1 p3 p4 p5, rfl, qq⟩
    · refine thnF (T.item (X.blk s3 H3 scope ce fp) rfl rfl rfl hc i [] s5 _ H5 (fun _ _ => False) I5 (lie I5 n5) st5 go) fun r s6 ⟨u, hr, h6⟩ => ?_
      subst hr
      refine thnF h6 fun _ s7 ⟨x, H7, I7, r7, y7, st7, n7⟩ => ?_
      have I7' := I7.pinned (lie I7 n7) (T.obj _ _ st7)
      refine thnF (kg.run _ s7 _ H7 x u _ I7' r7 (step x H7 y7)) fun _ s8 ⟨σ8, H8, I8, hw8, q8⟩ => ?_
      refine thnF (kt.run _ s8 σ8 H8 _ I8 q8) fun b s9 ⟨H9, I9, q9⟩ => ?_
      have again : ∀ {s' : Shared} {H' : Hp}, Inv (X.blk s3 H3 scope ce fp) ([] ++ pinsAt fp s7.heap) σ8 H' s' → Nx H' → ∃ m, m < n ∧ ∃ i H', Inv (X.blk s3 H3 scope ce fp) [] (wipe σ (own.map (·.2))) H' s' ∧ tn i s'.heap ∧ (∀ b ∈ fp, H' b = none) ∧ V i m H' := fun {s' H'} J nx => by
        obtain ⟨m', hm, w'⟩ := hNx H' nx
        have pin' : ∀ b ∈ fp, ∀ o, s7.heap.get? b = some o → s'.heap.get? b = some o ∧ H' b = none := fun b hb o e =>
          let z := J.pin (b, o) (List.mem_append_right _ (List.mem_append_right _ (mem_pinsAt hb e)))
          ⟨z.1, z.2.1⟩
        have hl : (wipe σ (own.map (·.2))).length = σ8.length := by rw [← hw8, wipe_length]
        refine ⟨m', hm, i + 1, H', (J.unpinned (pins := [])).weak hl (fun j v e => ?_), T.keep _ _ _ st7 fun b hb o e => (pin' b hb o e).1, fun b hb => ?_, w'⟩
        · rw [← hw8] at e
          exact (wipe_some e).1
        · obtain ⟨o, e, _⟩ := T.obj _ _ st7 b hb
          exact (pin' b hb o e).2
      cases b with
      | false =>
        simp only [Bool.false_eq_true, if_false] at q9 ⊢
        exact again I9 q9
      | true =>
        simp only [if_true] at q9 ⊢
        refine wpAny_mono (ke.run _ s9 σ8 H9 _ (xb_of I9) q9) (fun z s10 ⟨yv, H10, I10, r10, acc, hD10, hz10, nx⟩ => ?_) fun u' t' hx => ?_
        · exact app_ok (X := X.blk s3 H3 scope ce fp) (xb_to I10) hD10 hz10 r10 fun s11 I11 => again I11 nx
        · exact blk_out tk hW hst hf I3 f3 cL cF hx
  exact codeAny_compStart_list loop (T.self X.A 0 _ _ _ st4 loop)
end
end Mine
set_option Elab.async false
set_option linter.all false
set_option maxRecDepth 100000
set_option maxHeartbeats 4000000
/-! {**d, k: v}: a dict display that begins with the pairs of a dict. -/
namespace Mine
open PySem PySem.Calls L2 PyProof.Rows
section
variable {prog : Program} {w : World} {κ : Type} [DecidableEq κ] {knd : KeyKind prog w κ} {A : Around} {E : Value → Shared → Prop} {s : Shared}
/-- a pair is put by its hash -/
theorem put_hash {d : Addr} {kvs : List (κ × Value)} {k : κ} {key v : Value} {Q : Unit → Shared → Prop} (hkey : knd.is k key = true) (hm : s.heap.DictOf knd d kvs) (hz : kvs.length ≤ sizeLine)
    (q : ∀ h', h'.DictOf knd d (stored kvs k v) → Heap.SameBut d s.heap h' → Q () { s with heap := h' }) : wpAny (model prog w) A (dictPut d (knd.hash k) key v) Q E s := by
  obtain ⟨o, es, ep, ho, hc, hd, hk, hp, hn⟩ := hm
  have hes : es.size ≤ sizeLine := by
    have e1 := hp.length
    rw [Array.length_toList] at e1
    omega
  have hidx : (es.findIdx? fun e => knd.is k e.key) = kvs.findIdx? fun kv => decide (kv.1 = k) := by
    rw [← hp.findIdx k]
    obtain ⟨l⟩ := es
    simp
  unfold dictPut
  refine wpAny_bind (wpAny_dictFind_of hkey ho hd hk ?_)
  cases hi : es.findIdx? fun e => knd.is k e.key with
  | some i =>
    have yes := any_of_findIdx_some (hidx ▸ hi)
    refine wpAny_updateDict ho hd (q _ ⟨_, _, ep, Heap.get?_update_self _ ho (Obj.isFreed_of_dict (Obj.data_mapDict hd _)), hc.mapDict _, Obj.data_mapDict hd _, hk.modify _ _, ?_, ?_⟩ (Heap.SameBut.update ..))
    · rw [stored, if_pos yes]
      have hl : (es.toList.findIdx? fun e => knd.is k e.key) = some i := by
        rw [← hi]
        obtain ⟨l⟩ := es
        simp
      have z := hp.modify hn hl v
      obtain ⟨l⟩ := es
      simpa using z
    · rw [stored, if_pos yes, keys_map_store]
      exact hn
  | none =>
    have no : k ∉ kvs.map (·.1) := not_mem_of_findIdx_none (hidx ▸ hi)
    have no' : ¬ (kvs.any fun kv => decide (kv.1 = k)) = true := fun z => by
      obtain ⟨kv, hkv, he⟩ := List.any_eq_true.mp z
      exact no (List.mem_map.mpr ⟨kv, hkv, of_decide_eq_true he⟩)
    refine wpAny_updateDictKeys (hz := hes) ho hd (q _ ⟨_, _, ep + 1, Heap.get?_update_self _ ho (Obj.isFreed_of_dict (Obj.data_mapDictKeys hd _)), hc.mapDictKeys _, Obj.data_mapDictKeys hd _, hk.push hkey _, ?_, ?_⟩ (Heap.SameBut.update ..))
    · rw [stored, if_neg no']
      have z := hp.append hkey (knd.hash k) v
      obtain ⟨l⟩ := es
      simpa using z
    · rw [stored, if_neg no', List.map_append]
      refine List.nodup_append.mpr ⟨hn, by simp, fun a ha b hb e => ?_⟩
      have hb : b = k := by simpa using hb
      rw [e, hb] at ha
      exact no ha
/-- the pairs of a dict go into another one -/
theorem merge_map {d o : Addr} {kvs more : List (κ × Value)} {Q : Unit → Shared → Prop} (hdo : d ≠ o) (hoS : (o == sysModules) = false) (hd : s.heap.DictOf knd d kvs) (ho : s.heap.DictOf knd o more) (hr : ∀ k r, knd.is k (.ref r) = false)
    (hsz : kvs.length + more.length ≤ sizeLine) (hQ : ∀ h', h'.DictOf knd d (merged kvs more) → h'.DictOf knd o more → Heap.SameBut d s.heap h' → Q () { s with heap := h' }) : wpAny (model prog w) A (mergeMapping d (.ref o) false) Q E s := by
  obtain ⟨od, esd, epd, hod, hcd, hdd, hkd, hpd, hnd⟩ := id hd
  obtain ⟨oo, eso, epo, hoo, hco, hdo', hko, hpo, hno⟩ := id ho
  have hlen : more.length = eso.size := by rw [← hpo.length, Array.length_toList]
  have loop : wpAny (model prog w) A (do
      let l ← dictEntries o
      let ep ← dictEpoch o
      forIn (List.range l.size) PUnit.unit fun i (_ : PUnit) => (do
        let l' ← dictEntries o
        match l'[i]? with
        | some e => do
          holding [e.key, e.val] (dictPut d e.hash e.key e.val)
          let ep' ← dictEpoch o
          if (ep' != ep) = true then do
            (unsupported "dict.changed-during-merge" : Sem PUnit)
            pure (ForInStep.yield PUnit.unit)
          else pure (ForInStep.yield PUnit.unit)
        | _ => do
          (unsupported "dict.changed-during-merge" : Sem PUnit)
          pure (ForInStep.yield PUnit.unit) : Sem (ForInStep PUnit))
      pure ()) Q E s := by
    refine wpAny_bind (wpAny_dictEntries hoo hdo' (wpAny_bind (wpAny_dictEpoch hoo hdo' (wpAny_bind ?_))))
    rw [List.range_eq_range']
    refine wpAny_forIn_list _ (fun rest _ s' => ∃ h' i, s' = { s with heap := h' } ∧ rest = List.range' i (eso.size - i) ∧ i ≤ eso.size ∧ h'.DictOf knd d (merged kvs (more.take i)) ∧ h'.get? o = some oo ∧ Heap.SameBut d s.heap h')
      _ ?_ ?_ _ _ ⟨s.heap, 0, rfl, by simp, Nat.zero_le _, by simpa [merged] using hd, hoo, Heap.SameBut.refl _ _⟩
    · rintro x rest b s' ⟨h', i, rfl, hr', hi, hd', hoo', hs'⟩
      have hlt : i < eso.size := by
        refine Nat.lt_of_not_le fun z => ?_
        rw [Nat.sub_eq_zero_of_le z] at hr'
        simp at hr'
      have e : eso.size - i = (eso.size - (i + 1)) + 1 := by omega
      rw [e, List.range'_succ] at hr'
      obtain ⟨rfl, hrest⟩ := List.cons.inj hr'
      refine wpAny_bind (wpAny_dictEntries hoo' hdo' ?_)
      rw [Array.getElem?_eq_getElem hlt]
      obtain ⟨⟨k, v⟩, hkv⟩ : ∃ kv, more[x]? = some kv := ⟨more[x]'(by rw [hlen]; exact hlt), List.getElem?_eq_getElem _⟩
      obtain ⟨hkey, hval⟩ := hpo.get? (e := eso[x]) (by simp [hlt]) hkv
      obtain ⟨k', hkey', hhash⟩ := hko eso[x] (Array.getElem_mem hlt)
      obtain rfl : k' = k := knd.inj _ _ _ hkey' hkey
      show wpAny _ _ (holding [eso[x].key, eso[x].val] (dictPut d eso[x].hash eso[x].key eso[x].val) >>= _) _ _ _
      rw [hhash, hval]
      have few : (merged kvs (more.take x)).length ≤ sizeLine := by
        have e1 := merged_length_le kvs (more.take x)
        rw [List.length_take] at e1
        omega
      refine wpAny_bind (wpAny_holding (put_hash hkey hd' few fun h2 hd2 hs2 => ?_))
      have hoo2 : h2.get? o = some oo := (hs2.2 o (Ne.symm hdo)).trans hoo'
      refine wpAny_bind (wpAny_dictEpoch hoo2 hdo' ?_)
      rw [if_neg (by simp)]
      exact wpAny_pure ⟨h2, x + 1, rfl, hrest, hlt, by rw [merged_take_succ kvs more x (k', v) hkv]; exact hd2, hoo2, hs'.trans hs2⟩
    · rintro b s' ⟨h', i, rfl, hr', hi, hd', hoo', hs'⟩
      have hin : i = eso.size := by
        refine Nat.le_antisymm hi (Nat.le_of_not_lt fun z => ?_)
        have e : eso.size - i = (eso.size - (i + 1)) + 1 := by omega
        rw [e, List.range'_succ] at hr'
        cases hr'
      rw [hin, ← hlen, List.take_length] at hd'
      exact wpAny_pure (hQ h' hd' ⟨oo, eso, epo, hoo', hco, hdo', hko, hpo, hno⟩ hs')
  unfold mergeMapping
  refine wpAny_bind (wpAny_isInstance ho.typeIs isSubtype_dict_dict ?_)
  simp only [if_true]
  refine wpAny_bind (wpAny_specialOf ho.typeIs F.slot_dict_iter.lookup ?_)
  refine wpAny_bind (wpAny_pure ?_)
  simp only [beq_self_eq_true]
  rw [if_neg (by rw [hoS]; exact Bool.false_ne_true)]
  refine wpAny_bind (wpAny_dictEntries hod hdd ?_)
  split
  · refine wpAny_bind (wpAny_dictEntries hoo hdo' (wpAny_bind ?_))
    rw [← Array.forIn_toList]
    refine wpAny_forIn_list _ (fun l _ s' => s' = s ∧ ∀ e ∈ l, e ∈ eso) _ ?_ ?_ _ _ ⟨rfl, fun e he => Array.mem_toList_iff.mp he⟩
    · rintro e rest b s' ⟨rfl, he⟩
      obtain ⟨k, hk, _⟩ := hko e (he e List.mem_cons_self)
      cases hkey : e.key with
      | ref r =>
        rw [hkey, hr] at hk
        cases hk
      | _ => exact wpAny_pure ⟨rfl, fun x hx => he x (List.mem_cons_of_mem _ hx)⟩
    · rintro b s' ⟨rfl, _⟩
      exact loop
  · exact loop
end
/-- no key of ours is a reference -/
theorem mix_ref {P : Program} {w : World} (k : Key) (r : Addr) : (mixKind P w).is k (.ref r) = false := by
  cases h : (mixKind P w).is k (.ref r) with
  | false => rfl
  | true =>
    rcases keyIs_shape (show keyIs k (.ref r) = true from h) with ⟨i, t, _, e⟩ | ⟨x, t, _, e⟩ <;> cases e
/-- {**m, k: v}: m's pairs, then the written one -/
def tStarD (tm tk tv : TE) : TE := fun σ H Q => ∀ d, H d = none → tm σ (upd H d (.dK [])) fun x H1 => ∃ a kvs, x = .ref a ∧ a ≠ d ∧ H1 a = some (.dK kvs) ∧ H1 d = some (.dK []) ∧ ∀ e, H1 e = none →
  tk σ (upd (upd H1 d (.dK (mergeK [] kvs))) e (.dK [])) fun y H2 => tv σ H2 fun z H3 => ∃ k ms, y = kV k ∧ H3 e = some (.dK []) ∧ H3 d = some (.dK ms) ∧ ms.length < 1000 ∧ Q (.ref d) (upd (upd H3 e (.dK [(k, z)])) d (.dK (putK ms k z)))
section
variable {X : Cx} {em ek ev : Expr} {tm tk tv : TE} {pos : Pos}
theorem pe_starD (hm : PE X em tm) (hk : PE X ek tk) (hv : PE X ev tv)
    (hz : (evalEachOpt [none, some ek] X.env).zip ((evalEach [em, ev] X.env).map fun v => do let x ← v; standAt pos; pure x) = [(none, (do let x ← eval em X.env; standAt pos; pure x)), (some (eval ek X.env), (do let x ← eval ev X.env; standAt pos; pure x))] := by rfl) :
    PE X (.Dict [none, some ek] [em, ev] pos) (tStarD tm tk tv) := by
  refine ⟨fun pins s σ H Q I h => ?_⟩
  rw [arm_eval_Dict, hz]
  refine wpAny_bind (wpAny_standAt ?_)
  simp only [dictDisplay, List.forIn_cons, List.forIn_nil, List.isEmpty_nil, if_true, List.nil_append, pure_bind, bind_assoc, List.length_cons, List.length_nil, List.isEmpty_cons, Bool.false_eq_true, if_false]
  refine wpAny_bind (wpAny_alloc ?_)
  have hn := I.hok.fresh (Nat.le_refl s.heap.objs.size)
  have I0 := I.laid (a := s.heap.objs.size) (o := .dK []) (h' := s.heap.push { cls := .type "dict", data := .dict #[] }) (t' := s.toks) (fun _ _ q => Heap.get?_push_of_some _ q) (Nat.le_refl _) (dk_empty s.heap I.big)
  generalize s.heap.objs.size = d at hn I0 ⊢
  refine wpAny_bind (wpAny_holding (wpAny_bind (thn (hm.run pins _ σ _ _ I0 (h d hn)) fun u s1 ⟨x, H1, I1, rx, a, kvs, ex, had, ha, hd, q⟩ => wpAny_bind (wpAny_standAt (wpAny_pure ?_)))))
  subst ex
  obtain rfl : u = Value.ref a := rx
  obtain ⟨za, sa, va, ra, da⟩ := dk_of I1.hok ha
  obtain ⟨zd, sd, vd, rd, dd⟩ := dk_of I1.hok hd
  cases rd
  have la : kvs.length = va.length := Paired.length ra
  refine wpAny_bind (wpAny_onRaise (wpAny_tryCatch (wpAny_onRaise (wpAny_holding (merge_map (knd := mixKind X.prog X.w) (Ne.symm had) sa dd da mix_ref (by rw [List.length_nil]; omega) fun h2 dd2 da2 sb2 => ?_)))))
  have he2 : ∃ q, h2.get? d = some q := let ⟨q, _, _, hq, _⟩ := dd2; ⟨q, hq⟩
  have z2 : (mergeK [] kvs).length ≤ sizeLine := by
    have e := length_mergeK kvs []
    rw [List.length_nil] at e
    omega
  have I2 := d_write (t' := s1.toks) I1 (by rw [hd]; exact True.intro) sb2 he2 (dk_new z2 sd (ra.merge .nil) dd2)
  rw [if_neg (by decide)]
  refine wpAny_bind (wpAny_pure (wpAny_bind (wpAny_pure ?_)))
  simp only [List.isEmpty_cons, Bool.false_eq_true, if_false]
  refine wpAny_bind (wpAny_bind (wpAny_holding ?_))
  have hn2 := I2.hok.fresh (Nat.le_refl h2.objs.size)
  have hn2' : H1 h2.objs.size = none := by
    have z : h2.objs.size ≠ d := fun z => by
      rw [z, upd_same] at hn2
      cases hn2
    rw [upd_ne z] at hn2
    exact hn2
  have I3 := I2.laid (a := h2.objs.size) (o := .dK []) (h' := h2.push { cls := .type "dict", data := .dict #[] }) (t' := s1.toks) (fun _ _ q => Heap.get?_push_of_some _ q) (Nat.le_refl _) (dk_empty h2 I2.big)
  refine wpAny_subDict (knd := mixKind X.prog X.w) (by show 1 ≤ 15; decide) (evalPairs_cons (thn (hk.run pins _ σ _ _ I3 (q h2.objs.size hn2')) fun uk s3 ⟨y, H2, I4, rk, q4⟩ => ?_))
  refine wpAny_bind (thn (hv.run pins s3 σ H2 _ I4 q4) fun uv s4 ⟨z, H3, I5, rv, k, ms, ek, he, hd5, hms, q5⟩ => wpAny_bind (wpAny_standAt (wpAny_pure (evalPairs_nil ?_))))
  subst ek
  obtain ⟨ze, se, ve, re, de⟩ := dk_of I5.hok he
  cases re
  refine ⟨[(k, uv)], ⟨kV_is rk, rfl, trivial⟩, de, fun h6 d6 sb6 => ?_⟩
  have he6 : ∃ q, h6.get? h2.objs.size = some q := let ⟨q, _, _, hq, _⟩ := d6; ⟨q, hq⟩
  have I6 := d_write (t' := s4.toks + 1) I5 (by rw [he]; exact True.intro) sb6 he6 (dk_new (kvs := [(k, z)]) (by show 1 ≤ sizeLine; decide) se (KV.merge (more := [(k, z)]) (kvs := []) (.cons ⟨rfl, rv⟩ .nil) .nil) d6)
  have ned : d ≠ h2.objs.size := fun w => by
    rw [← w] at hn2'
    rw [hd] at hn2'
    cases hn2'
  have hd6 : (upd H3 h2.objs.size (.dK [(k, z)])) d = some (.dK ms) := by rw [upd_ne ned]; exact hd5
  obtain ⟨z7, s7, v7, r7, d7⟩ := dk_of I6.hok hd6
  have l7 : ms.length = v7.length := Paired.length r7
  refine wpAny_bind (wpAny_onRaise (wpAny_holding (merge_map (knd := mixKind X.prog X.w) ned se d7 d6 mix_ref (by show v7.length + 1 ≤ sizeLine; rw [← l7, sizeLine_eq]; omega) fun h8 d8 da8 sb8 => ?_)))
  have he8 : ∃ q, h8.get? d = some q := let ⟨q, _, _, hq, _⟩ := d8; ⟨q, hq⟩
  have I8 := d_write (t' := s4.toks + 1) I6 (by rw [hd6]; exact True.intro) sb8 he8 (dk_new (kvs := putK ms k z) (by have := length_putK ms k z; rw [sizeLine_eq]; omega) s7 (KV.merge (more := [(k, z)]) (.cons ⟨rfl, rv⟩ .nil) r7) d8)
  exact wpAny_pure (wpAny_pure ⟨.ref d, _, I8, rfl, q5⟩)
end
end Mine
set_option Elab.async false
set_option linter.all false
set_option maxRecDepth 100000
set_option maxHeartbeats 4000000
/-! A dict comprehension with two clauses; a walk over the keys of a written dict; a walk whose source is one of two. (The loops follow the kit's own for lists and for one clause.) -/
namespace Mine
open PySem PySem.Calls PySem.Spec PyProof.Rows L2
/-- one of two walks -/
theorem pi_or {X : Cx} {tg l : Expr} {wi wj : TI} (h : PI X tg l wi) (h' : PI X tg l wj) : PI X tg l (fun σ H R => wi σ H R ∨ wj σ H R) :=
  ⟨fun pins s σ H R I q => q.elim (h.run pins s σ H R I) (h'.run pins s σ H R I)⟩
/-! ### the keys of a written dict -/
def Itw (ks : List Str) : It := ⟨fun i _ => i < ks.length, fun i H x H' => H' = H ∧ ∃ k, ks[i]? = some k ∧ x = .str k, fun i _ => ks.length ≤ i⟩
theorem walk_w {ks : List Str} : Walk (Itw ks) ks.length (fun _ => True) (YAt (ks.map V.str)) :=
  ⟨fun _ _ hi _ => hi, fun _ _ => Nat.le_refl _, fun i H x H' _ _ ⟨e, k, e2, e3⟩ => ⟨e, by rw [List.getElem?_map, e2, e3]; rfl⟩⟩
/-- a dict of the written part with these keys in this order -/
structure WDict (K : PySem.W.Frag) (a : Addr) (ks : List Str) : Prop where
  low : (a == sysModules) = false
  at_ : ∃ (es : Array DictEntry) (ep : Nat), K.lookup a = some ⟨.type "dict", none, .dict es ep, #[]⟩ ∧ es.size = ks.length ∧ ∀ (i : Nat) (k : Str), ks[i]? = some k → ∃ (en : DictEntry) (t : Tok), es[i]? = some en ∧ en.key = .str k t
theorem turn_w {P : Program} {w : World} {K : PySem.W.Frag} {tg : Expr} {d : Addr} {ks : List Str} {es : Array DictEntry} {ep : Nat} (it : Addr) (hl : K.lookup d = some ⟨.type "dict", none, .dict es ep, #[]⟩) (hz : es.size = ks.length)
    (hk : ∀ (i : Nat) (k : Str), ks[i]? = some k → ∃ (en : DictEntry) (t : Tok), es[i]? = some en ∧ en.key = .str k t) : Turn P w K tg (Itw ks) [it] it (fun i h => h.IsKeyIter it d i ks.length ep) where
  mem := List.mem_singleton.mpr rfl
  obj := fun i h st b hb => by
    obtain rfl := List.mem_singleton.mp hb
    obtain ⟨oi, e, _, dd⟩ := st
    exact ⟨oi, e, fun v z => by rw [dd] at z; cases z⟩
  keep := fun i h h' st k => st.at fun oi e => k it (List.mem_singleton.mpr rfl) oi e
  item := by
    intro X hP hw hK hc i pins s σ H E I hf st hg
    subst hP hw hK
    obtain ⟨f0, f1, f2, f3, f4, f5⟩ := hf it (List.mem_singleton.mpr rfl)
    have hi : i < ks.length := hg
    obtain ⟨en, t, hen, hkey⟩ := hk i ks[i] (List.getElem?_eq_getElem hi)
    refine next_key_item st (I.kIn _ _ hl) rfl hz hen fun h' st' sb => ?_
    have J : Inv X pins σ H { s with heap := h' } := I.turned (t' := s.toks) (fun b ob hb e => (sb.2 b hb).trans e) f0 f1 f3 f4 f5
    obtain ⟨oi, e, c, dd⟩ := id st'
    exact ⟨en.key, rfl, go_of (s := { s with heap := h' }) e c dd (by decide) ⟨.str ks[i], H, J, ⟨t, hkey⟩, ⟨rfl, ks[i], List.getElem?_eq_getElem hi, rfl⟩, st', fun b hb => (hf b hb).1⟩⟩
  done := by
    intro X hP hw hK hc i pins s σ H E I hf st hg
    subst hP hw hK
    obtain ⟨f0, f1, f2, f3, f4, f5⟩ := hf it (List.mem_singleton.mpr rfl)
    exact next_key_end (I.ok.hd hc) st (I.kIn _ _ hl) rfl hz hg fun h' eb => ⟨rfl, I.turned (t' := s.toks) (fun b ob hb e => eb b ob hb e) f0 f1 f3 f4 f5⟩
  self := fun A i s Q E st h => wpAny_pyIter_keyiter st h
def iWDict (K : PySem.W.Frag) (td : TE) : TI := fun σ H R => td σ H fun x H1 => ∃ d ks, x = .ref d ∧ WDict K d ks ∧ R (Itw ks) H1
theorem pi_wdict {X : Cx} {tg e : Expr} {td : TE} (he : PE X e td) : PI X tg e (iWDict X.K td) := by
  refine ⟨fun pins s σ H R I h => ?_⟩
  refine thn (he.run pins s σ H _ I h) fun u s1 ⟨x, H1, I1, rx, d, ks, ex, ⟨low, es, ep, hl, hz, hk⟩, q⟩ => ?_
  subst ex
  obtain rfl : u = Value.ref d := rx
  refine iter_keys low (I1.kIn _ _ hl) ⟨rfl, rfl, rfl⟩ rfl (pi_one (tk := s1.toks) I1 _ (turn_w _ hl hz hk) ⟨_, Heap.get?_push_size _ rfl, rfl, ?_⟩ q)
  rw [hz] <;> rfl
/-! ### {k: v for a in xs for b in ys} -/
section
variable {prog : Program} {w : World} {A : Around} {R : Result → Shared → Prop} {s : Shared} {kx vx t0 i0 t1 i1 : Expr} {scope : Scope} {pos : Pos} {it : Value} {D : Addr} {env : Env}
abbrev dcx (kx vx t0 i0 t1 i1 : Expr) (scope : Scope) (pos : Pos) : Expr := .DictComp kx vx [⟨t0, i0, [], 0⟩, ⟨t1, i1, [], 0⟩] scope pos
theorem turn_out : compTurn (dcx kx vx t0 i0 t1 i1 scope pos) 0 it (.ref D) env = (do
      standAt i0.pos
      match ← pyNext it with
      | none => pure (.done .next)
      | some v =>
        letOwnedTupleGo t0 it v
        assign t0 env v
        let x ← eval i1 env
        standAt i1.pos
        let x ← foldedSetIterable i1 env x
        let _ ← runOwn (.compStart (dcx kx vx t0 i0 t1 i1 scope pos) 1 (← holding [x] (pyIter x)) (.ref D) env) env
        again (.compLoop (dcx kx vx t0 i0 t1 i1 scope pos) 0 it (.ref D) env)) := by rfl
theorem turn_in : compTurn (dcx kx vx t0 i0 t1 i1 scope pos) 1 it (.ref D) env = (do
      standAt i1.pos
      match ← pyNext it with
      | none => pure (.done .next)
      | some v =>
        letOwnedTupleGo t1 it v
        assign t1 env v
        (do
          let kv ← eval kx env
          let vv ← holding [kv] (eval vx env)
          standAt { kx.pos with endLine := vx.pos.endLine, endCol := vx.pos.endCol }
          holding [kv, vv] (dictSet D kv vv))
        again (.compLoop (dcx kx vx t0 i0 t1 i1 scope pos) 1 it (.ref D) env)) := by rfl
theorem loop_out (hs : ∀ x, foldedSetIterable i1 env x = pure x) (I : Nat → Shared → Prop)
    (turn : ∀ n t, I n t → wpAny (model prog w) A (pyNext it) (fun r t1' => match r with
      | none => R (.ok .next) t1'
      | some v => wpAny (model prog w) A (letOwnedTupleGo t0 it v) (fun _ t2 => wpAny (model prog w) A (assign t0 env v) (fun _ t3 =>
          wpAny (model prog w) A (eval i1 env) (fun x t4 => wpAny (model prog w) A (pyIter x) (fun j t5 =>
            codeAny (model prog w) A (.compStart (dcx kx vx t0 i0 t1 i1 scope pos) 1 j (.ref D) env) (fun r t' => match r with
              | .ok _ => ∃ m, m < n ∧ I m t'
              | .error _ => False) t5) (fun _ _ => False) t4) (fun _ _ => False) t3) (fun _ _ => False) t2) (fun _ _ => False) t1') (fun _ _ => False) t)
    (n : Nat) (h : I n s) : codeAny (model prog w) A (.compLoop (dcx kx vx t0 i0 t1 i1 scope pos) 0 it (.ref D) env) R s := by
  have no : ∀ (x : Value) (t : Shared), False → notedBy (model prog w) A env (fun e s' => R (.error e) s') x t := fun _ _ z => z.elim
  refine codeAny_loop rfl I (fun n t hI => ?_) n h
  show wpAny _ A ((compTurn (dcx kx vx t0 i0 t1 i1 scope pos) 0 it (.ref D) env).onRaise (fun x => do noteFrame x env; theTreesLotGoes x)) _ _ t
  refine wpAny_noted ?_
  rw [turn_out]
  refine wpAny_bind (wpAny_standAt (wpAny_bind (wpAny_mono (turn n t hI) (fun r t1' h1 => ?_) no)))
  cases r with
  | none => exact wpAny_pure h1
  | some v =>
    refine wpAny_bind (wpAny_mono h1 (fun _ t2 h2 => ?_) no)
    refine wpAny_bind (wpAny_mono h2 (fun _ t3 h3 => ?_) no)
    refine wpAny_bind (wpAny_mono h3 (fun x t4 h4 => ?_) no)
    refine wpAny_bind (wpAny_standAt (wpAny_bind (wpAny_of_eq (hs x) (wpAny_bind (wpAny_holding (wpAny_mono h4 (fun j t5 h5 => ?_) no))))))
    refine wpAny_bind (wpAny_runOwn ?_)
    rw [Around.mark_none]
    refine codeAny_mono h5 fun r t' hr => ?_
    cases r with
    | ok f =>
      first
        | exact wpAny_pure ⟨rfl, hr⟩
        | exact wpAny_bind (wpAny_pure (wpAny_pure ⟨rfl, hr⟩))
    | error e => exact hr.elim
theorem loop_in (I : Nat → Shared → Prop)
    (turn : ∀ n t, I n t → wpAny (model prog w) A (pyNext it) (fun r t1' => match r with
      | none => R (.ok .next) t1'
      | some v => wpAny (model prog w) A (letOwnedTupleGo t1 it v) (fun _ t2 => wpAny (model prog w) A (assign t1 env v) (fun _ t3 =>
          wpAny (model prog w) A (eval kx env) (fun y t4 => wpAny (model prog w) A (eval vx env) (fun z t5 =>
            wpAny (model prog w) A (dictSet D y z) (fun _ t6 => ∃ m, m < n ∧ I m t6) (fun _ _ => False) t5) (fun _ _ => False) t4) (fun _ _ => False) t3) (fun _ _ => False) t2) (fun _ _ => False) t1') (fun _ _ => False) t)
    (n : Nat) (h : I n s) : codeAny (model prog w) A (.compLoop (dcx kx vx t0 i0 t1 i1 scope pos) 1 it (.ref D) env) R s := by
  have no : ∀ (x : Value) (t : Shared), False → notedBy (model prog w) A env (fun e s' => R (.error e) s') x t := fun _ _ z => z.elim
  refine codeAny_loop rfl I (fun n t hI => ?_) n h
  show wpAny _ A ((compTurn (dcx kx vx t0 i0 t1 i1 scope pos) 1 it (.ref D) env).onRaise (fun x => do noteFrame x env; theTreesLotGoes x)) _ _ t
  refine wpAny_noted ?_
  rw [turn_in]
  refine wpAny_bind (wpAny_standAt (wpAny_bind (wpAny_mono (turn n t hI) (fun r t1' h1 => ?_) no)))
  cases r with
  | none => exact wpAny_pure h1
  | some v =>
    refine wpAny_bind (wpAny_mono h1 (fun _ t2 h2 => ?_) no)
    refine wpAny_bind (wpAny_mono h2 (fun _ t3 h3 => ?_) no)
    refine wpAny_bind (wpAny_bind (wpAny_mono h3 (fun y t4 h4 => ?_) no))
    refine wpAny_bind (wpAny_holding (wpAny_mono h4 (fun z t5 h5 => ?_) no))
    exact wpAny_bind (wpAny_standAt (wpAny_holding (wpAny_mono h5 (fun _ t6 h6 => wpAny_pure ⟨rfl, h6⟩) no)))
theorem start_in {acc : Value} (h0 : codeAny (model prog w) A (.compLoop (dcx kx vx t0 i0 t1 i1 scope pos) 1 it acc env) R s)
    (h : wpAny (model prog w) A (pyIter it) (fun j t => codeAny (model prog w) A (.compLoop (dcx kx vx t0 i0 t1 i1 scope pos) 1 j acc env) R t) (notedBy (model prog w) A env fun x t => R (.error x) t) s) :
    codeAny (model prog w) A (.compStart (dcx kx vx t0 i0 t1 i1 scope pos) 1 it acc env) R s := by
  refine codeAny_of_tree ?_
  show wpAny _ _ ((compStart (dcx kx vx t0 i0 t1 i1 scope pos) 1 it acc env).onRaise (fun x => do noteFrame x env; standAt theWindowsPlace)) _ _ s
  refine wpAny_notedAt ?_
  unfold compStart
  show wpAny _ _ (ask >>= _) _ _ s
  refine wpAny_bind (wpAny_askSetting (wpAny_ite ?_))
  split
  · first
      | exact wpAny_bind (wpAny_pure (wpAny_pure (And.intro rfl h0)))
      | exact wpAny_pure (And.intro rfl h0)
  · first
      | exact wpAny_bind (wpAny_rule (wpAny_bind (wpAny_standAt (wpAny_bind (wpAny_mono h (fun it' s' h' => wpAny_pure (And.intro rfl h')) fun _ _ x => x)))))
      | (refine wpAny_bind (wpAny_rule ?_); show wpAny _ _ (standAt i1.pos >>= _) _ _ s; exact wpAny_bind (wpAny_standAt (wpAny_bind (wpAny_mono h (fun it' s' h' => wpAny_pure (And.intro rfl h')) fun _ _ x => x))))
end
section
variable {X : Cx}
/-- {k: v for tg in iter for tg1 in iter1}; vs: the block's names, vs1: those of the second target -/
def tDc2 (wi : TI) (g : TG) (wi1 : TI) (g1 : TG) (tk tv : TE) (vs vs1 : List Nat) : TE := fun σ H Q => wi σ H fun J H1 => ∀ D, H1 D = none → ∃ W : Nat → Nat → Hp → Prop, (∃ m, W 0 m (upd H1 D (.dK []))) ∧ ∀ i m H, W i m H →
  (J.stop i H ∧ Q (.ref D) H) ∨ (J.go i H ∧ ∃ Nx : Hp → Prop, (∀ H', Nx H' → ∃ m', m' < m ∧ W (i + 1) m' H') ∧ ∀ x H', J.yld i H x H' → g x (wipe σ vs) H' fun σ2 H2 => wipe σ2 vs = wipe σ vs ∧
    wi1 σ2 H2 fun J1 H4 => ∃ W1 : Nat → Nat → Hp → Prop, (∃ m, W1 0 m H4) ∧ ∀ j k H, W1 j k H →
      (J1.stop j H ∧ Nx H) ∨ (J1.go j H ∧ ∃ Nx1 : Hp → Prop, (∀ H', Nx1 H' → ∃ k', k' < k ∧ W1 (j + 1) k' H') ∧ ∀ x H', J1.yld j H x H' → g1 x (wipe σ2 vs1) H' fun σ3 H5 => wipe σ3 vs1 = wipe σ2 vs1 ∧
        tk σ3 H5 fun y H6 => tv σ3 H6 fun z H7 => ∃ kvs k, y = kV k ∧ H7 D = some (.dK kvs) ∧ kvs.length < sizeLine ∧ Nx1 (upd H7 D (.dK (putK kvs k z)))))
theorem pe_dc2 {kx vx tg iter tg1 iter1 : Expr} {scope : Scope} {own : List (Str × Nat)} {vs1 : List Nat} {pos : Pos} {wi wi1 : TI} {g g1 : TG} {tk tv : TE}
    (hc : X.calm = true) (hN : X.N.Nodup) (hi : PI X tg iter wi) (ok : BlkOk X.N X.env.scope scope own) (hv : ∀ i ∈ vs1, i ∈ own.map (·.2))
    (hg : ∀ (s : Shared) (H : Hp) (C : Addr) (cl : List (Str × Addr)) (fp : List Addr), PG (X.blk s H scope (compEnvC scope cl C X.env) fp) tg g)
    (hi1 : ∀ (s : Shared) (H : Hp) (C : Addr) (cl : List (Str × Addr)) (fp : List Addr), PI (X.blk s H scope (compEnvC scope cl C X.env) fp) tg1 iter1 wi1)
    (hg1 : ∀ (s : Shared) (H : Hp) (C : Addr) (cl : List (Str × Addr)) (fp : List Addr), PG (X.blk s H scope (compEnvC scope cl C X.env) fp) tg1 g1)
    (hk : ∀ (s : Shared) (H : Hp) (C : Addr) (cl : List (Str × Addr)) (fp : List Addr), PE (X.blk s H scope (compEnvC scope cl C X.env) fp) kx tk)
    (he : ∀ (s : Shared) (H : Hp) (C : Addr) (cl : List (Str × Addr)) (fp : List Addr), PE (X.blk s H scope (compEnvC scope cl C X.env) fp) vx tv)
    (hs : ∀ x, foldedSetIterable iter X.env x = pure x := by intro _; rfl) (hs1 : ∀ env x, foldedSetIterable iter1 env x = pure x := by intro _ _; rfl) :
    PE X (.DictComp kx vx [⟨tg, iter, [], 0⟩, ⟨tg1, iter1, [], 0⟩] scope pos) (tDc2 wi g wi1 g1 tk tv (own.map (·.2)) vs1) := by
  refine ⟨fun pins s σ H Q I h => ?_⟩
  rw [arm_eval_DictComp]
  have hfree : ∀ y ∈ scope.names, y.2 = .free → ∃ c, X.env.cells.lookup y.1 = some c := fun y hy e => by
    rcases ok.free y hy e with k | k
    · exact I.ok.has _ (.inl k)
    · exact I.ok.has _ (.inr k)
  refine wpAny_comprehension_free (use := none) rfl hs (closure_ok hfree) ok.kind (fun y hy e => by rw [ok.uniq y hy, e]) (thn (hi.run pins s σ H _ I h) fun xv s1 hx => thn hx fun itv s2 h2 => ?_)
  obtain ⟨it, fp, tn, J, H2, e, I2, T, st2, f2, q⟩ := h2
  subst e
  refine wpAny_newObj_type (newEnv_comp ?_)
  generalize hD : s2.heap.objs.size = D
  have nD : H2 D = none := I2.hok.fresh (Nat.le_of_eq hD)
  obtain ⟨W, ⟨m0, w0⟩, turn⟩ := q D nD
  generalize hs3 : ({ s2 with heap := s2.heap.push { cls := .type "dict", data := .dict #[] } } : Shared) = s3
  have h3 : s3.heap = s2.heap.push { cls := .type "dict", data := .dict #[] } := by rw [← hs3]
  have I3 : Inv X pins σ (upd H2 D (.dK [])) s3 := by
    rw [← hs3]
    refine I2.laid (t' := s2.toks) (fun b o e => Heap.get?_push_of_some _ e) (Nat.le_of_eq hD) ?_
    rw [← hD]
    exact dk_empty s2.heap I2.big
  have below : ∀ b ∈ fp, b < s2.heap.objs.size := fun b hb => let ⟨_, e, _⟩ := T.obj _ _ st2 b hb; Heap.lt_size e
  have f3 : ∀ b ∈ fp, FpOk X pins (upd H2 D (.dK [])) b ∧ b < s3.heap.objs.size := fun b hb => by
    have lt := below b hb
    refine ⟨⟨?_, (f2 b hb).2⟩, by rw [h3, Heap.size_push]; exact Nat.lt_succ_of_lt lt⟩
    rw [upd_ne (by rw [← hD]; exact Nat.ne_of_lt lt)]
    exact (f2 b hb).1
  have st3 : tn 0 s3.heap := T.keep _ _ _ st2 fun b _ o e => by rw [h3]; exact Heap.get?_push_of_some _ e
  have I4 := block_start I3 ok hN f3
  have kg := hg s3 (upd H2 D (.dK [])) s3.heap.objs.size (cellsFrom (s3.heap.objs.size + 1) scope.names (cloFrom X.env.cells scope.names [])) fp
  have ki := hi1 s3 (upd H2 D (.dK [])) s3.heap.objs.size (cellsFrom (s3.heap.objs.size + 1) scope.names (cloFrom X.env.cells scope.names [])) fp
  have kg1 := hg1 s3 (upd H2 D (.dK [])) s3.heap.objs.size (cellsFrom (s3.heap.objs.size + 1) scope.names (cloFrom X.env.cells scope.names [])) fp
  have kk := hk s3 (upd H2 D (.dK [])) s3.heap.objs.size (cellsFrom (s3.heap.objs.size + 1) scope.names (cloFrom X.env.cells scope.names [])) fp
  have ke := he s3 (upd H2 D (.dK [])) s3.heap.objs.size (cellsFrom (s3.heap.objs.size + 1) scope.names (cloFrom X.env.cells scope.names [])) fp
  show codeAny _ _ (.compStart (dcx kx vx tg iter tg1 iter1 scope pos) 0 (.ref it) (.ref D) (compEnvC scope (cellsFrom (s3.heap.objs.size + 1) scope.names (cloFrom X.env.cells scope.names [])) s3.heap.objs.size X.env))
    (compPost (model X.prog X.w) X.A X.xe none (EP X pins σ Q) (.ref D) s3.heap.objs.size) { s3 with heap := pushCells (s3.heap.push { cls := .type "dict", data := .dict #[] }) scope.names }
  generalize hce : compEnvC scope (cellsFrom (s3.heap.objs.size + 1) scope.names (cloFrom X.env.cells scope.names [])) s3.heap.objs.size X.env = ce at I4 kg ki kg1 kk ke ⊢
  have cL : ce.locals = s3.heap.objs.size := by subst hce; rfl
  generalize hH3 : upd H2 D (.dK []) = H3 at I3 I4 kg ki kg1 kk ke w0 f3
  have nfp : ∀ b ∈ fp, H3 b = none := fun b hb => (f3 b hb).1.1
  generalize hs4 : ({ s3 with heap := pushCells (s3.heap.push { cls := .type "dict", data := .dict #[] }) scope.names } : Shared) = s4 at I4 ⊢
  have st4 : tn 0 s4.heap := T.keep _ _ _ st3 fun b _ o e => by rw [← hs4]; exact pushCells_keeps _ _ _ _ (Heap.get?_push_of_some _ e)
  have lie : ∀ {σ' : L2.St} {H' : Hp} {s' : Shared}, Inv (X.blk s3 H3 scope ce fp) [] σ' H' s' → (∀ b ∈ fp, H' b = none) → ∀ b ∈ fp, FpOk (X.blk s3 H3 scope ce fp) [] H' b := fun {σ' H' s'} J hn b hb =>
    ⟨hn b hb, (J.ok.exf b hb).1, J.ok.exfs b hb, .inl hb, fun x c e => (J.ok.exf b hb).2 x c e, fun p hp => absurd (show p ∈ ([] : List (Addr × Obj)) ++ [] from hp) (by simp)⟩
  have loop : codeAny (model X.prog X.w) X.A (.compLoop (dcx kx vx tg iter tg1 iter1 scope pos) 0 (.ref it) (.ref D) ce) (compPost (model X.prog X.w) X.A X.xe none (EP X pins σ Q) (.ref D) s3.heap.objs.size) s4 := by
    refine loop_out (hs1 ce) (fun n s' => ∃ i H', Inv (X.blk s3 H3 scope ce fp) [] (wipe σ (own.map (·.2))) H' s' ∧ tn i s'.heap ∧ (∀ b ∈ fp, H' b = none) ∧ W i n H') ?_ m0 ⟨0, H3, I4, st4, nfp, w0⟩
    rintro n s5 ⟨i, H5, I5, st5, n5, w5⟩
    rcases turn i n H5 w5 with ⟨stop, qq⟩ | ⟨go, Nx, hNx, step⟩
    · refine thnF (T.done (X.blk s3 H3 scope ce fp) rfl rfl rfl hc i [] s5 _ H5 (fun _ _ => False) I5 (lie I5 n5) st5 stop) fun r s6 ⟨hr, I6⟩ => ?_
      subst hr
      have I7 : Inv X pins σ H5 s6 := I3.call' (ch := fp) I6.os I6.base I6.hok I6.bare fun b hb => ⟨(f3 b hb).1.2.2.2.1, (f3 b hb).1.2.1, (f3 b hb).1.2.2.2.2.1, (f3 b hb).1.2.2.2.2.2⟩
      have nC : H5 s3.heap.objs.size = none := by
        have z : H5 ce.locals = none := I6.free
        rw [cL] at z
        exact z
      obtain ⟨m, hn, _⟩ := I6.loc
      have hn : s6.heap.Ns ce.locals m := hn
      rw [cL] at hn
      refine ⟨m, hn, fun h' sb => ?_⟩
      obtain ⟨p0, p1, p2, p3, p4, p5⟩ := I3.fpOk (H' := H5) (Nat.le_refl _) nC
      exact ⟨.ref D, H5, I7.turned (t' := s6.toks) (fun b o hb e => (sb.2 b hb).trans e) p0 p1 p3 p4 p5, rfl, qq⟩
    · refine thnF (T.item (X.blk s3 H3 scope ce fp) rfl rfl rfl hc i [] s5 _ H5 (fun _ _ => False) I5 (lie I5 n5) st5 go) fun r s6 ⟨u, hr, h6⟩ => ?_
      subst hr
      refine thnF h6 fun _ s7 ⟨x, H7, I7, r7, y7, st7, n7⟩ => ?_
      have I7' := I7.pinned (lie I7 n7) (T.obj _ _ st7)
      refine thnF (kg.run _ s7 _ H7 x u _ I7' r7 (step x H7 y7)) fun _ s8 ⟨σ8, H8, I8, hw8, q8⟩ => ?_
      have again : ∀ {σ9 : L2.St} {s' : Shared} {H' : Hp}, Inv (X.blk s3 H3 scope ce fp) ([] ++ pinsAt fp s7.heap) σ9 H' s' → (wipe σ (own.map (·.2))).length = σ9.length → (∀ (j : Nat) v, (wipe σ (own.map (·.2)))[j]? = some (some v) → σ9[j]? = some (some v)) → Nx H' →
          ∃ m, m < n ∧ ∃ i H', Inv (X.blk s3 H3 scope ce fp) [] (wipe σ (own.map (·.2))) H' s' ∧ tn i s'.heap ∧ (∀ b ∈ fp, H' b = none) ∧ W i m H' := fun {σ9 s' H'} J hl hk nx => by
        obtain ⟨m', hm, w'⟩ := hNx H' nx
        have pin' : ∀ b ∈ fp, ∀ o, s7.heap.get? b = some o → s'.heap.get? b = some o ∧ H' b = none := fun b hb o e =>
          let z := J.pin (b, o) (List.mem_append_right _ (List.mem_append_right _ (mem_pinsAt hb e)))
          ⟨z.1, z.2.1⟩
        refine ⟨m', hm, i + 1, H', (J.unpinned (pins := [])).weak hl hk, T.keep _ _ _ st7 fun b hb o e => (pin' b hb o e).1, fun b hb => ?_, w'⟩
        obtain ⟨o, e, _⟩ := T.obj _ _ st7 b hb
        exact (pin' b hb o e).2
      have hl8 : (wipe σ (own.map (·.2))).length = σ8.length := by rw [← hw8, wipe_length]
      have hk9 : ∀ (j : Nat) v, (wipe σ (own.map (·.2)))[j]? = some (some v) → (wipe σ8 vs1)[j]? = some (some v) := fun j v e => by
        rw [← hw8] at e
        obtain ⟨e1, e2⟩ := wipe_some e
        rw [wipe_out fun z => e2 (hv j z)]
        exact e1
      refine thnF (ki.run _ s8 σ8 H8 _ I8 q8) fun xv s10 hx => thnF hx fun itv s11 h11 => ?_
      obtain ⟨it1, fp1, tn1, J1, H11, e1, I11, T1, st11, f11, W1, ⟨m1, w1⟩, turn1⟩ := h11
      subst e1
      have lie1 : ∀ {H' : Hp}, (∀ b ∈ fp1, H' b = none) → ∀ b ∈ fp1, FpOk (X.blk s3 H3 scope ce fp) ([] ++ pinsAt fp s7.heap) H' b := fun hn b hb => ⟨hn b hb, (f11 b hb).2⟩
      have loop1 : codeAny (model X.prog X.w) X.A (.compLoop (dcx kx vx tg iter tg1 iter1 scope pos) 1 (.ref it1) (.ref D) ce)
          (fun r s' => match r with
            | .ok _ => ∃ m, m < n ∧ ∃ i H', Inv (X.blk s3 H3 scope ce fp) [] (wipe σ (own.map (·.2))) H' s' ∧ tn i s'.heap ∧ (∀ b ∈ fp, H' b = none) ∧ W i m H'
            | .error _ => False) s11 := by
        refine loop_in (fun k s' => ∃ j H', Inv (X.blk s3 H3 scope ce fp) ([] ++ pinsAt fp s7.heap) (wipe σ8 vs1) H' s' ∧ tn1 j s'.heap ∧ (∀ b ∈ fp1, H' b = none) ∧ W1 j k H') ?_ m1 ⟨0, H11, I11.weak (wipe_length _ _) (fun j v e => (wipe_some e).1), st11, fun b hb => (f11 b hb).1, w1⟩
        rintro k s12 ⟨j, H12, I12, st12, n12, w12⟩
        rcases turn1 j k H12 w12 with ⟨stop1, nx1⟩ | ⟨go1, Nx1, hNx1, step1⟩
        · refine thnF (T1.done (X.blk s3 H3 scope ce fp) rfl rfl rfl hc j _ s12 (wipe σ8 vs1) H12 (fun _ _ => False) I12 (lie1 n12) st12 stop1) fun r s13 ⟨hr, I13⟩ => ?_
          subst hr
          exact again I13 (hl8.trans (wipe_length σ8 vs1).symm) hk9 nx1
        · refine thnF (T1.item (X.blk s3 H3 scope ce fp) rfl rfl rfl hc j _ s12 (wipe σ8 vs1) H12 (fun _ _ => False) I12 (lie1 n12) st12 go1) fun r s13 ⟨u1, hr, h13⟩ => ?_
          subst hr
          refine thnF h13 fun _ s14 ⟨x1, H14, I14, r14, y14, st14, n14⟩ => ?_
          have I14' := I14.pinned (lie1 n14) (T1.obj _ _ st14)
          refine thnF (kg1.run _ s14 (wipe σ8 vs1) H14 x1 u1 _ I14' r14 (step1 x1 H14 y14)) fun _ s15 ⟨σ15, H15, I15, hw15, q15⟩ => ?_
          have again1 : ∀ {s' : Shared} {H' : Hp}, Inv (X.blk s3 H3 scope ce fp) (([] ++ pinsAt fp s7.heap) ++ pinsAt fp1 s14.heap) σ15 H' s' → Nx1 H' → ∃ m, m < k ∧ ∃ j H', Inv (X.blk s3 H3 scope ce fp) ([] ++ pinsAt fp s7.heap) (wipe σ8 vs1) H' s' ∧ tn1 j s'.heap ∧ (∀ b ∈ fp1, H' b = none) ∧ W1 j m H' := fun {s' H'} K' nx => by
            obtain ⟨m', hm, w'⟩ := hNx1 H' nx
            have pin' : ∀ b ∈ fp1, ∀ o, s14.heap.get? b = some o → s'.heap.get? b = some o ∧ H' b = none := fun b hb o e =>
              let z := K'.pin (b, o) (List.mem_append_right _ (List.mem_append_right _ (mem_pinsAt hb e)))
              ⟨z.1, z.2.1⟩
            refine ⟨m', hm, j + 1, H', K'.unpinned.weak (by rw [← hw15, wipe_length]) (fun j v e => by rw [← hw15] at e; exact (wipe_some e).1), T1.keep _ _ _ st14 fun b hb o e => (pin' b hb o e).1, fun b hb => ?_, w'⟩
            obtain ⟨o, e, _⟩ := T1.obj _ _ st14 b hb
            exact (pin' b hb o e).2
          refine thnF (kk.run _ s15 σ15 H15 _ I15 q15) fun y s16 ⟨yk, H16, I16, r16, q16⟩ => ?_
          refine thnF (ke.run _ s16 σ15 H16 _ I16 q16) fun z s17 ⟨yv, H17, I17, r17, kvs, kk', ek, hD17, hz17, nx⟩ => ?_
          subst ek
          exact d_dictSet (X := X.blk s3 H3 scope ce fp) I17 hD17 hz17 r16 r17 fun s18 I18 => again1 I18 nx
      exact start_in loop1 (T1.self X.A 0 _ _ _ st11 loop1)
  exact codeAny_compStart_dict loop (T.self X.A 0 _ _ _ st4 loop)
/-- two walks, one in the other: P by (outer turn, heap), P1 by (inner turn, heap) -/
theorem dc2_it {J : It} {n : Nat} {G : Hp → Prop} {Y : Nat → Hp → V → Hp → Prop} (w : Walk J n G Y) {g : TG} {wi1 : TI} {g1 : TG} {tk tv : TE} {vs vs1 : List Nat} {σ : L2.St} {H1 : Hp} {D : Addr} {Qd : Hp → Prop} (P : Nat → Hp → Prop) (h0 : P 0 (upd H1 D (.dK [])))
    (hG : ∀ i H, i ≤ n → P i H → G H)
    (hs : ∀ i x H H', i < n → P i H → Y i H x H' → g x (wipe σ vs) H' fun σ2 H2 => wipe σ2 vs = wipe σ vs ∧ wi1 σ2 H2 fun J1 H4 => ∃ W1 : Nat → Nat → Hp → Prop, (∃ m, W1 0 m H4) ∧ ∀ j k H, W1 j k H →
      (J1.stop j H ∧ P (i + 1) H) ∨ (J1.go j H ∧ ∃ Nx1 : Hp → Prop, (∀ H', Nx1 H' → ∃ k', k' < k ∧ W1 (j + 1) k' H') ∧ ∀ x H', J1.yld j H x H' → g1 x (wipe σ2 vs1) H' fun σ3 H5 => wipe σ3 vs1 = wipe σ2 vs1 ∧
        tk σ3 H5 fun y H6 => tv σ3 H6 fun z H7 => ∃ kvs k, y = kV k ∧ H7 D = some (.dK kvs) ∧ kvs.length < sizeLine ∧ Nx1 (upd H7 D (.dK (putK kvs k z))))) (hd : ∀ H, P n H → Qd H) :
    ∃ W : Nat → Nat → Hp → Prop, (∃ m, W 0 m (upd H1 D (.dK []))) ∧ ∀ i m H, W i m H →
      (J.stop i H ∧ Qd H) ∨ (J.go i H ∧ ∃ Nx : Hp → Prop, (∀ H', Nx H' → ∃ m', m' < m ∧ W (i + 1) m' H') ∧ ∀ x H', J.yld i H x H' → g x (wipe σ vs) H' fun σ2 H2 => wipe σ2 vs = wipe σ vs ∧ wi1 σ2 H2 fun J1 H4 => ∃ W1 : Nat → Nat → Hp → Prop, (∃ m, W1 0 m H4) ∧ ∀ j k H, W1 j k H →
        (J1.stop j H ∧ Nx H) ∨ (J1.go j H ∧ ∃ Nx1 : Hp → Prop, (∀ H', Nx1 H' → ∃ k', k' < k ∧ W1 (j + 1) k' H') ∧ ∀ x H', J1.yld j H x H' → g1 x (wipe σ2 vs1) H' fun σ3 H5 => wipe σ3 vs1 = wipe σ2 vs1 ∧
          tk σ3 H5 fun y H6 => tv σ3 H6 fun z H7 => ∃ kvs k, y = kV k ∧ H7 D = some (.dK kvs) ∧ kvs.length < sizeLine ∧ Nx1 (upd H7 D (.dK (putK kvs k z))))) := by
  refine ⟨fun i m H => m = n - i ∧ i ≤ n ∧ P i H, ⟨n, by simp, Nat.zero_le _, h0⟩, ?_⟩
  rintro i m H ⟨rfl, hi, p⟩
  have q := hG i H hi p
  by_cases lt : i < n
  · exact .inr ⟨w.goes i H lt q, P (i + 1), fun H' p' => ⟨n - (i + 1), by omega, rfl, lt, p'⟩, fun x H' y => hs i x H H' lt p (w.yields i H x H' lt q y)⟩
  · obtain rfl : i = n := by omega
    exact .inl ⟨w.stops H q, hd H p⟩
/-- the inner walk -/
theorem dc1_it {J : It} {n : Nat} {G : Hp → Prop} {Y : Nat → Hp → V → Hp → Prop} (w : Walk J n G Y) {g1 : TG} {tk tv : TE} {vs1 : List Nat} {σ2 : L2.St} {H4 : Hp} {D : Addr} {Qd : Hp → Prop} (P : Nat → Hp → Prop) (h0 : P 0 H4) (hG : ∀ i H, i ≤ n → P i H → G H)
    (hs : ∀ i x H H', i < n → P i H → Y i H x H' → g1 x (wipe σ2 vs1) H' fun σ3 H5 => wipe σ3 vs1 = wipe σ2 vs1 ∧ tk σ3 H5 fun y H6 => tv σ3 H6 fun z H7 => ∃ kvs k, y = kV k ∧ H7 D = some (.dK kvs) ∧ kvs.length < sizeLine ∧ P (i + 1) (upd H7 D (.dK (putK kvs k z)))) (hd : ∀ H, P n H → Qd H) :
    ∃ W1 : Nat → Nat → Hp → Prop, (∃ m, W1 0 m H4) ∧ ∀ j k H, W1 j k H → (J.stop j H ∧ Qd H) ∨ (J.go j H ∧ ∃ Nx1 : Hp → Prop, (∀ H', Nx1 H' → ∃ k', k' < k ∧ W1 (j + 1) k' H') ∧ ∀ x H', J.yld j H x H' → g1 x (wipe σ2 vs1) H' fun σ3 H5 => wipe σ3 vs1 = wipe σ2 vs1 ∧
      tk σ3 H5 fun y H6 => tv σ3 H6 fun z H7 => ∃ kvs k, y = kV k ∧ H7 D = some (.dK kvs) ∧ kvs.length < sizeLine ∧ Nx1 (upd H7 D (.dK (putK kvs k z)))) := by
  refine ⟨fun i m H => m = n - i ∧ i ≤ n ∧ P i H, ⟨n, by simp, Nat.zero_le _, h0⟩, ?_⟩
  rintro i m H ⟨rfl, hi, p⟩
  have q := hG i H hi p
  by_cases lt : i < n
  · exact .inr ⟨w.goes i H lt q, P (i + 1), fun H' p' => ⟨n - (i + 1), by omega, rfl, lt, p'⟩, fun x H' y => hs i x H H' lt p (w.yields i H x H' lt q y)⟩
  · obtain rfl : i = n := by omega
    exact .inl ⟨w.stops H q, hd H p⟩
end
end Mine
set_option Elab.async false
set_option linter.all false
set_option maxRecDepth 100000
set_option maxHeartbeats 4000000
/-! Small rules: walks whose written part is named; str of a number or a text. -/
namespace Mine
open PySem PySem.Calls L2 PyProof.Rows
section
variable {X : Cx} {tg l : Expr} {tl : TE}
theorem pi_listK (K : PySem.W.Frag) (h : X.K = K) (hl : PE X l tl) : PI X tg l (iList K tl) := by subst h; exact pi_list hl
theorem pi_tupK (K : PySem.W.Frag) (h : X.K = K) (hl : PE X l tl) : PI X tg l (iTup K tl) := by subst h; exact pi_tup hl
def iSeq (K : PySem.W.Frag) (tl : TE) : TI := fun σ H R => iList K tl σ H R ∨ iTup K tl σ H R
theorem pi_seqK (K : PySem.W.Frag) (h : X.K = K) (hl : PE X l tl) : PI X tg l (iSeq K tl) := pi_or (pi_listK K h hl) (pi_tupK K h hl)
theorem ixdK (K : PySem.W.Frag) (w : World) (h : X.K = K) (hw : X.w = w) : IxR X (rIxD K w) := by subst h; subst hw; exact ix_kdict
theorem call_str_part : CallR X (.type "str") (fun xs H Q => (∃ i, xs = [.int i] ∧ i.natAbs.log2 < 1920 ∧ Q (.str (toString i)) H) ∨ ∃ a, xs = [.str a] ∧ Q (.str a) H) :=
  fun pins s σ H xs us Q I r h => h.elim (call_str_int pins s σ H xs us Q I r) (SkE.call_str_str pins s σ H xs us Q I r)
theorem cr_allK (K : PySem.W.Frag) (h : X.K = K) (hc : X.calm = true) : CallR X (.builtin "all") (rAll K) := by subst h; exact cr_all hc
end
end Mine
set_option Elab.async false
set_option linter.all false
set_option maxRecDepth 100000
set_option maxHeartbeats 2000000
/-! Games: what is written. -/
namespace Pz
open PySem L2 Gm
def numS (i : Int) : Str := toString i
def eWords : Ex → List Str
  | .num n => [numS n]
  | .loc x => [x]
  | .var x => [x]
  | .has t e => "has" :: t :: eWords e
  | .cell t e => "cell" :: t :: eWords e
  | .op o a b => o :: (eWords a ++ eWords b)
def ptWords : Pt → List Str
  | .s x => [x]
  | .n v => [numS v]
  | .e x => eWords x
mutual
def sWords : Stm → List Str
  | .set x e => "set" :: x :: eWords e
  | .lt l e => "let" :: l :: eWords e
  | .draw l n => ["draw", l, numS n]
  | .put t e f => "put" :: t :: (eWords e ++ eWords f)
  | .lot l o e => "lot" :: l :: o :: eWords e
  | .ask l p e => "ask" :: l :: p :: eWords e
  | .ite e a b => "if" :: (eWords e ++ bWords a ++ (if b.len = 0 then [] else ("else" : Str) :: bWords b) ++ [("end" : Str)])
  | .bad => ["bad"]
  | .after a => "after" :: (bWords a ++ [("end" : Str)])
def bWords : Blk → List Str
  | .nil => []
  | .cons s r => sWords s ++ bWords r
end
def exGood : Nat → Ex → Bool
  | 0, _ => false
  | _ + 1, .num n => decide (0 ≤ n ∧ n ≤ 65535)
  | _ + 1, .loc _ => true
  | _ + 1, .var _ => true
  | k + 1, .has _ e => exGood k e
  | k + 1, .cell _ e => exGood k e
  | k + 1, .op o a b => decide (o ∈ ops) && exGood k a && exGood k b
mutual
def stmGood : Nat → Stm → Bool
  | _, .set _ e => exGood 8 e
  | _, .lt _ e => exGood 8 e
  | _, .draw _ n => decide (0 ≤ n ∧ n ≤ 65535)
  | _, .put _ e f => exGood 8 e && exGood 8 f
  | _, .lot _ _ e => exGood 8 e
  | _, .ask _ _ e => exGood 8 e
  | 0, .ite _ _ _ => false
  | d + 1, .ite e a b => exGood 8 e && blkGood d a && blkGood d b
  | _, .bad => true
  | 0, .after _ => false
  | d + 1, .after a => blkGood d a
def blkGood : Nat → Blk → Bool
  | _, .nil => true
  | d, .cons x r => stmGood d x && blkGood d r
end
def rowWords (k : Str) (rs : List Row) : List Str := rs.flatMap fun r => [k, r.1, numS r.2.1, numS r.2.2]
def moreLocals : List Str → List Str
  | [] => []
  | _ :: r => r.flatMap fun x => ["local", x]
def prWords (p : Pr) : List Str := ([("proc" : Str), p.name, numS p.size, numS p.ans, p.locs.headD Str.empty] : List Str) ++ moreLocals p.locs ++ bWords p.block ++ [("answer" : Str)] ++ eWords p.res ++ [("end" : Str)]
def gWords (g : Ga) : List Str := rowWords "var" g.vars ++ rowWords "table" g.tabs ++ rowWords "lots" g.lots ++ g.procs.flatMap prWords
def small (i : Int) : Bool := decide (0 ≤ i ∧ i ≤ 1000000)
def rowGood (r : Row) : Bool := small r.2.1 && small r.2.2
def prGood (p : Pr) : Bool := small p.size && small p.ans && decide (0 < p.locs.length) && blkGood 6 p.block && exGood 8 p.res
def gGood (g : Ga) : Bool := g.vars.all rowGood && g.tabs.all rowGood && g.lots.all rowGood && g.procs.all prGood
def gText (g : Ga) : Str := Txt.join " " (gWords g)
theorem small_log {i : Int} (h0 : 0 ≤ i) (h : i ≤ 1000000) : i.natAbs.log2 < 1920 := by
  have h1 : i.natAbs < 2 ^ 64 := Nat.lt_of_le_of_lt (show i.natAbs ≤ 1000000 by omega) (by decide)
  exact Nat.lt_of_lt_of_le (PySem.Flt.log2_lt_of (k := 64) (by decide) h1) (by decide)
/-! ### what the defs promise -/
section
variable (CG : Addr) (K : PySem.W.Frag)
def NewL (H : Hp) (Q : VK) (ws : List Str) : Prop := ∀ L H', Same H H' → H L = none → H' L = some (.lst (ws.map V.str)) → Q (.ref L) H'
def spEW (k : Nat) : Sp := fun vs H Q _ => ∃ (v : V) (e : Ex), vs = [v] ∧ Dp K H v e.d ∧ exGood k e = true ∧ (eWords e).length ≤ 1000000 ∧ NewL H Q (eWords e)
def spSW (d : Nat) : Sp := fun vs H Q _ => ∃ (v : V) (x : Stm), vs = [v] ∧ Dp K H v x.d ∧ stmGood d x = true ∧ (sWords x).length ≤ 1000000 ∧ NewL H Q (sWords x)
def spBW (d : Nat) : Sp := fun vs H Q _ => ∃ (v : V) (x : Blk), vs = [v] ∧ Dp K H v x.d ∧ blkGood d x = true ∧ (bWords x).length ≤ 1000000 ∧ NewL H Q (bWords x)
def spCW (d : Nat) : Sp := fun vs H Q _ => ∃ (v : V) (e : Ex) (a b : Blk), vs = [v] ∧ Dp K H v (Stm.ite e a b).d ∧ exGood 8 e = true ∧ blkGood d a = true ∧ blkGood d b = true ∧ (sWords (.ite e a b)).length ≤ 1000000 ∧ NewL H Q (sWords (.ite e a b))
def spRW : Sp := fun vs H Q _ => ∃ (v : V) (k : Str) (rs : List Row), vs = [.str k, v] ∧ Dp K H v (trips rs) ∧ rs.all rowGood = true ∧ (rowWords k rs).length ≤ 1000000 ∧ NewL H Q (rowWords k rs)
def spPW : Sp := fun vs H Q _ => ∃ (v : V) (p : Pr), vs = [v] ∧ Dp K H v p.d ∧ prGood p = true ∧ (prWords p).length ≤ 1000000 ∧ NewL H Q (prWords p)
def spText : Sp := fun vs H Q _ => ∃ (r : Addr) (g : Ga), vs = [.ref r] ∧ GameAt CG K H r g ∧ gGood g = true ∧ (gWords g).length ≤ 1000000 ∧ ((gWords g).map (·.length)).sum ≤ 10000000 ∧ ∀ H', Same H H' → Q (.str (gText g)) H'
end
theorem NewL.same {H H1 : Hp} {Q : VK} {ws : List Str} (h : NewL H Q ws) (s : Same H H1) : NewL H1 Q ws := fun L H' m n e => h L H' (s.trans m) (by
  cases x : H L with
  | none => rfl
  | some o => rw [s _ _ x] at n; cases n) e
/-! ### zip of two tuples, walked -/
theorem walk_zipT {K : PySem.W.Frag} {a b : Addr} {xs ys : List V} {n : Nat} (hn : n = min xs.length ys.length) : Walk (RZ.ItzT K a b) n (fun H => SqT K H a xs ∧ SqT K H b ys) (YPair (fun i => xs[i]?) (fun i => ys[i]?)) := by
  subst hn
  refine ⟨fun i _ hi q => ?_, fun _ q => ⟨xs, ys, q.1, q.2, by omega⟩, fun i H v H' _ q y => ?_⟩
  · exact ⟨xs, ys, xs[i]'(by omega), ys[i]'(by omega), q.1, q.2, List.getElem?_eq_getElem _, List.getElem?_eq_getElem _⟩
  · obtain ⟨T, x, z, h1, h2, h3, h4, h5⟩ := y
    exact ⟨T, x, z, h1, h2, h3, h4 xs q.1, h5 ys q.2⟩
/-! ### statements by their parts -/
structure Simple (x : Stm) (w : Str) (xs : List Pt) : Prop where
  mem : w ∈ words
  d : x.d = .tuple (.str w :: xs.map Pt.d)
  s : sWords x = w :: xs.flatMap ptWords
  k : (formOf w).length = xs.length
  fit : ∀ (i : Nat) (k : Str) (p : Pt), (formOf w)[i]? = some k → xs[i]? = some p → (k = "expression" ∧ ∃ e, p = .e e ∧ exGood 8 e = true) ∨ (k ≠ "expression" ∧ ((∃ y, p = .s y) ∨ ∃ n, p = .n n ∧ 0 ≤ n ∧ n ≤ 65535))
theorem all2 {α β : Type} {R : α → β → Prop} {as : List α} {bs : List β} {a : α} {b : β} (h : R a b) (t : ∀ (i : Nat) x y, as[i]? = some x → bs[i]? = some y → R x y) : ∀ (i : Nat) x y, (a :: as)[i]? = some x → (b :: bs)[i]? = some y → R x y
  | 0, x, y, e1, e2 => by
    obtain rfl : a = x := Option.some.inj e1
    obtain rfl : b = y := Option.some.inj e2
    exact h
  | i + 1, x, y, e1, e2 => t i x y (by simpa using e1) (by simpa using e2)
theorem all2nil {α β : Type} {R : α → β → Prop} : ∀ (i : Nat) (x : α) (y : β), ([] : List α)[i]? = some x → ([] : List β)[i]? = some y → R x y := fun i x y h => by simp at h
def PK (k : Str) (p : Pt) : Prop := (k = "expression" ∧ ∃ e, p = .e e ∧ exGood 8 e = true) ∨ (k ≠ "expression" ∧ ((∃ y, p = .s y) ∨ ∃ n, p = .n n ∧ 0 ≤ n ∧ n ≤ 65535))
theorem pk_s {k y : Str} (h : k ≠ "expression" := by decide) : PK k (.s y) := .inr ⟨h, .inl ⟨y, rfl⟩⟩
theorem pk_n {k : Str} {n : Int} (g : 0 ≤ n ∧ n ≤ 65535) (h : k ≠ "expression" := by decide) : PK k (.n n) := .inr ⟨h, .inr ⟨n, rfl, g⟩⟩
theorem pk_e {e : Ex} (g : exGood 8 e = true) : PK "expression" (.e e) := .inl ⟨rfl, e, rfl, g⟩
theorem simple_of {d : Nat} {x : Stm} (g : stmGood d x = true) (h1 : ∀ e a b, x ≠ .ite e a b) (h2 : ∀ a, x ≠ .after a) : ∃ w xs, Simple x w xs := by
  cases x with
  | set y e =>
    have g : exGood 8 e = true := by cases d <;> (unfold stmGood at g; exact g)
    exact ⟨"set", [.s y, .e e], by decide, by unfold Stm.d; rfl, by unfold sWords; simp [ptWords], rfl, all2 (R := PK) pk_s (all2 (pk_e g) all2nil)⟩
  | lt y e =>
    have g : exGood 8 e = true := by cases d <;> (unfold stmGood at g; exact g)
    exact ⟨"let", [.s y, .e e], by decide, by unfold Stm.d; rfl, by unfold sWords; simp [ptWords], rfl, all2 (R := PK) pk_s (all2 (pk_e g) all2nil)⟩
  | draw y n =>
    have g : decide (0 ≤ n ∧ n ≤ 65535) = true := by cases d <;> (unfold stmGood at g; exact g)
    exact ⟨"draw", [.s y, .n n], by decide, by unfold Stm.d; rfl, by unfold sWords; simp [ptWords], rfl, all2 (R := PK) pk_s (all2 (pk_n (of_decide_eq_true g)) all2nil)⟩
  | put y e f =>
    have g : (exGood 8 e && exGood 8 f) = true := by cases d <;> (unfold stmGood at g; exact g)
    rw [Bool.and_eq_true] at g
    exact ⟨"put", [.s y, .e e, .e f], by decide, by unfold Stm.d; rfl, by unfold sWords; simp [ptWords], rfl, all2 (R := PK) pk_s (all2 (pk_e g.1) (all2 (pk_e g.2) all2nil))⟩
  | lot y z e =>
    have g : exGood 8 e = true := by cases d <;> (unfold stmGood at g; exact g)
    exact ⟨"lot", [.s y, .s z, .e e], by decide, by unfold Stm.d; rfl, by unfold sWords; simp [ptWords], rfl, all2 (R := PK) pk_s (all2 pk_s (all2 (pk_e g) all2nil))⟩
  | ask y z e =>
    have g : exGood 8 e = true := by cases d <;> (unfold stmGood at g; exact g)
    exact ⟨"ask", [.s y, .s z, .e e], by decide, by unfold Stm.d; rfl, by unfold sWords; simp [ptWords], rfl, all2 (R := PK) pk_s (all2 pk_s (all2 (pk_e g) all2nil))⟩
  | ite e a b => exact absurd rfl (h1 e a b)
  | bad => exact ⟨"bad", [], by decide, by unfold Stm.d; rfl, by unfold sWords; rfl, rfl, all2nil⟩
  | after a => exact absurd rfl (h2 a)
def blkL : Blk → List Stm
  | .nil => []
  | .cons s r => s :: blkL r
theorem blkL_ds : ∀ b : Blk, b.ds = (blkL b).map Stm.d
  | .nil => by unfold Blk.ds; rfl
  | .cons s r => by unfold Blk.ds; rw [blkL_ds r]; rfl
theorem blkL_words : ∀ b : Blk, bWords b = (blkL b).flatMap sWords
  | .nil => by unfold bWords; rfl
  | .cons s r => by unfold bWords; rw [blkL_words r]; rfl
theorem blkL_good : ∀ {b : Blk} {d : Nat}, blkGood d b = true → ∀ x ∈ blkL b, stmGood d x = true
  | .nil, _, _, x, h => by cases h
  | .cons s r, d, g, x, h => by
    unfold blkGood at g
    rw [Bool.and_eq_true] at g
    rcases List.mem_cons.mp h with rfl | h
    · exact g.1
    · exact blkL_good g.2 x h
theorem flatMap_take {α β : Type} {f : α → List β} : ∀ {xs : List α} {i : Nat} {x : α}, xs[i]? = some x → (xs.take (i + 1)).flatMap f = (xs.take i).flatMap f ++ f x := fun {xs i x} h => by
  rw [take_more h, List.flatMap_append]
  simp
theorem flatMap_len {α β : Type} {f : α → List β} : ∀ {xs : List α} {i : Nat}, ((xs.take i).flatMap f).length ≤ (xs.flatMap f).length
  | [], i => by simp
  | x :: xs, 0 => by simp
  | x :: xs, i + 1 => by
    have := flatMap_len (f := f) (xs := xs) (i := i)
    simp only [List.take_succ_cons, List.flatMap_cons, List.length_append]
    omega
theorem flatMap_one {α β : Type} {f : α → List β} : ∀ {xs : List α} {i : Nat} {x : α}, xs[i]? = some x → (f x).length ≤ (xs.flatMap f).length
  | [], i, x, h => by simp at h
  | y :: xs, 0, x, h => by
    obtain rfl : y = x := Option.some.inj h
    simp only [List.flatMap_cons, List.length_append]
    omega
  | y :: xs, i + 1, x, h => by
    have := flatMap_one (f := f) (xs := xs) (i := i) (x := x) (by simpa using h)
    simp only [List.flatMap_cons, List.length_append]
    omega
end Pz
set_option Elab.async false
set_option linter.all false
set_option maxRecDepth 100000
set_option maxHeartbeats 2000000
/-! Tactics: what is read and written. -/
namespace Pz
open PySem L2 Gm TL
theorem lt_of_wd' {ws : List Str} {i : Nat} (h : wd ws i ≠ Str.empty) : i < ws.length := Nat.lt_of_not_le fun z => h (by
  unfold wd
  rw [List.getD_eq_getElem?_getD, List.getElem?_eq_none z]
  rfl)
theorem drop_wd' {ws : List Str} {i : Nat} (h : wd ws i ≠ Str.empty) : ws.drop i = wd ws i :: ws.drop (i + 1) := by
  have hi := lt_of_wd' h
  rw [List.drop_eq_getElem_cons hi]
  unfold wd
  rw [List.getD_eq_getElem?_getD, List.getElem?_eq_getElem hi]
  rfl
theorem wd_of_drop {ws : List Str} {i : Nat} {x : Str} {r : List Str} (h : ws.drop i = x :: r) : wd ws i = x ∧ ws.drop (i + 1) = r ∧ i < ws.length := by
  have hi : i < ws.length := Nat.lt_of_not_le fun z => by rw [List.drop_eq_nil_of_le z] at h; cases h
  rw [List.drop_eq_getElem_cons hi] at h
  obtain ⟨h1, h2⟩ := List.cons.inj h
  refine ⟨?_, h2, hi⟩
  unfold wd
  rw [List.getD_eq_getElem?_getD, List.getElem?_eq_getElem hi]
  exact h1
theorem signs_numS (n : Nat) : signs (numS (n : Int)) = numL n := tl_num n
theorem str_ext' {x y : Str} (e : signs x = signs y) : x = y := by
  obtain ⟨⟨x⟩⟩ := x
  obtain ⟨⟨y⟩⟩ := y
  unfold signs at e
  dsimp only at e
  rw [e]
theorem lead : ∀ n : Nat, 0 < n → ∃ c r, numL n = c :: r ∧ c ≠ 48 := by
  intro n
  induction n using Nat.strongRecOn with
  | _ n ih =>
    intro h
    by_cases h10 : n < 10
    · exact ⟨_, _, numL_lt h10, by omega⟩
    · obtain ⟨c, r, e, hc⟩ := ih (n / 10) (by omega) (by omega)
      rw [numL_step (by omega), e]
      exact ⟨c, _, rfl, hc⟩
theorem isNum_S {n : Nat} (h : n ≤ 65535) : isNum (numS (n : Int)) = true ∧ numW (numS (n : Int)) = n := by
  have hv : numW (numS (n : Int)) = n := by
    unfold numW
    rw [signs_numS, numL_val]
  refine ⟨?_, hv⟩
  have hl : (numS (n : Int)).length ≤ 5 := by
    rw [← len_signs, signs_numS]
    exact numL_len (by decide) (by omega)
  have hl1 : 1 ≤ (numS (n : Int)).length := by
    rw [← len_signs, signs_numS]
    exact Nat.pos_of_ne_zero fun z => numL_ne n (List.length_eq_zero_iff.mp z)
  unfold isNum
  rw [decide_eq_true ⟨hl1, hl⟩, Bool.true_and, hv, signs_numS, Bool.and_eq_true]
  refine ⟨List.all_eq_true.mpr fun c hc => digB_iff.mpr (numL_digits n c hc), ?_⟩
  by_cases hz : n = 0
  · subst hz
    decide +kernel
  · obtain ⟨c, r, e, hc⟩ := lead n (by omega)
    rw [e]
    show (if c = 48 then _ else _) = true
    rw [if_neg hc]
    exact decide_eq_true h
inductive TX where
  | num (n : Int) | key (x : Str) | op (o : Str) (a b : TX)
def TX.d : TX → PyData
  | .num n => .tuple [.str "number", .int n]
  | .key x => .tuple [.str x]
  | .op o a b => .tuple [.str o, a.d, b.d]
theorem TX.nol : ∀ e : TX, nol e.d = true
  | .num _ => rfl
  | .key _ => rfl
  | .op _ a b => by
    unfold TX.d Gm.nol Gm.nolAll Gm.nolAll Gm.nolAll Gm.nolAll
    rw [TX.nol a, TX.nol b]
    rfl
def tWords : TX → List Str
  | .num n => [numS n]
  | .key x => [x]
  | .op o a b => o :: (tWords a ++ tWords b)
def knw : List Str := ["last", "made", "kept"]
def tGood : Nat → TX → Bool
  | 0, _ => false
  | _ + 1, .num n => decide (0 ≤ n ∧ n ≤ 65535)
  | _ + 1, .key x => decide (x ∈ knw)
  | k + 1, .op o a b => decide (o ∈ ops) && tGood k a && tGood k b
theorem tGood_up : ∀ {k : Nat} {e : TX}, tGood k e = true → tGood (k + 1) e = true
  | 0, _, h => by cases h
  | k + 1, .num _, h => h
  | k + 1, .key _, h => h
  | k + 1, .op o a b, h => by
    unfold tGood at h ⊢
    rw [Bool.and_eq_true, Bool.and_eq_true] at h ⊢
    exact ⟨⟨h.1.1, tGood_up h.1.2⟩, tGood_up h.2⟩
theorem tGood_le {k j : Nat} {e : TX} (h : tGood k e = true) (l : k ≤ j) : tGood j e = true := by
  induction l with
  | refl => exact h
  | step _ ih => exact tGood_up ih
def tAtom (ws : List Str) (i : Nat) : Except Nat (TX × Nat) :=
  if isNum (wd ws i) = true then .ok (.num (numW (wd ws i) : Nat), i + 1)
  else if wd ws i ∈ knw then .ok (.key (wd ws i), i + 1)
  else .error i
def pTx (ws : List Str) : Nat → Nat → Except Nat (TX × Nat)
  | 0, i => tAtom ws i
  | k + 1, i =>
    if wd ws i ∈ ops then
      match pTx ws k (i + 1) with
      | .error j => .error j
      | .ok (a, j) => match pTx ws k j with
        | .error m => .error m
        | .ok (b, m) => .ok (.op (wd ws i) a b, m)
    else tAtom ws i
structure Ru where
  t : TX
  a : Option Str
  e : TX
  k : TX
def Ru.deed (r : Ru) : PyData := match r.a with
  | some p => .tuple [.str "ask", .str p, r.e.d]
  | none => .tuple [.str "say", r.e.d]
def Ru.d (r : Ru) : PyData := .tuple [r.t.d, r.deed, r.k.d]
theorem Ru.nol_deed (r : Ru) : Gm.nol r.deed = true := by
  unfold Ru.deed
  cases r.a with
  | none => 
    show (true && (Gm.nol r.e.d && true)) = true
    rw [TX.nol]; rfl
  | some p =>
    show (true && (true && (Gm.nol r.e.d && true))) = true
    rw [TX.nol]; rfl
theorem Ru.nol (r : Ru) : Gm.nol r.d = true := by
  show (Gm.nol r.t.d && (Gm.nol r.deed && (Gm.nol r.k.d && true))) = true
  rw [TX.nol, TX.nol, Ru.nol_deed]; rfl
theorem nolAll_rs : ∀ rs : List Ru, Gm.nolAll (rs.map Ru.d) = true
  | [] => rfl
  | r :: rs => by
    show (Gm.nol r.d && Gm.nolAll (rs.map Ru.d)) = true
    rw [Ru.nol, nolAll_rs rs]; rfl
def dWords (r : Ru) : List Str := match r.a with
  | some p => ["ask", p]
  | none => ["say"]
def ruWords (r : Ru) : List Str := "when" :: (tWords r.t ++ (dWords r ++ (tWords r.e ++ tWords r.k)))
def rsWords (rs : List Ru) : List Str := rs.flatMap ruWords
structure RuOk (k : Nat) (r : Ru) : Prop where
  t : tGood k r.t = true
  e : tGood k r.e = true
  k : tGood k r.k = true
  a : ∀ p, r.a = some p → isName p = true
def pDeed (ws : List Str) (j : Nat) : Except Nat (Option Str × Nat) :=
  if wd ws j = "ask" then (if isName (wd ws (j + 1)) = true then .ok (some (wd ws (j + 1)), j + 2) else .error (j + 1))
  else if wd ws j = "say" then .ok (none, j + 1) else .error j
def pRule (ws : List Str) (i : Nat) : Except Nat (Ru × Nat) :=
  match pTx ws 7 i with
  | .error j => .error j
  | .ok (t, j) => match pDeed ws j with
    | .error m => .error m
    | .ok (a, m) => match pTx ws 7 m with
      | .error n => .error n
      | .ok (e, n) => match pTx ws 7 n with
        | .error q => .error q
        | .ok (k, q) => .ok (⟨t, a, e, k⟩, q)
def pRules (ws : List Str) : Nat → List Ru → Nat → Except Nat (List Ru × Nat)
  | 0, found, i => .ok (found, i)
  | f + 1, found, i => if wd ws i = "when" then
      match pRule ws (i + 1) with
      | .error j => .error j
      | .ok (r, j) => pRules ws f (found ++ [r]) j
    else .ok (found, i)
def pTac (ws : List Str) : Except Nat (List Ru) := match pRules ws 20 [] 0 with
  | .error j => .error j
  | .ok (rs, j) => if j = ws.length then .ok rs else .error j
/-! ### written, then read -/
variable {ws : List Str}
theorem ops_num : ∀ o ∈ ops, isNum o = false := by decide +kernel
theorem knw_num : ∀ o ∈ knw, isNum o = false := by decide +kernel
theorem knw_ops : ∀ o ∈ knw, o ∉ ops := by decide +kernel
theorem num_ops {w : Str} (h : isNum w = true) : w ∉ ops := fun z => by rw [ops_num w z] at h; cases h
theorem tx_fwd : ∀ {k i : Nat} {e : TX} {r : List Str}, tGood (k + 1) e = true → ws.drop i = tWords e ++ r → pTx ws k i = .ok (e, i + (tWords e).length) ∧ ws.drop (i + (tWords e).length) = r := by
  have atom : ∀ {i : Nat} {e : TX} {r : List Str}, tGood 1 e = true → ws.drop i = tWords e ++ r → (∀ k, pTx ws k i = .ok (e, i + (tWords e).length)) ∧ ws.drop (i + (tWords e).length) = r := by
    intro i e r g h
    cases e with
    | op o a b =>
      unfold tGood at g
      rw [Bool.and_eq_true, Bool.and_eq_true] at g
      cases g.2
    | num n =>
      have g : 0 ≤ n ∧ n ≤ 65535 := of_decide_eq_true g
      obtain ⟨m, rfl⟩ : ∃ m : Nat, n = m := ⟨n.toNat, by omega⟩
      obtain ⟨h1, h2, _⟩ := wd_of_drop h
      obtain ⟨n1, n2⟩ := isNum_S (n := m) (by omega)
      have ta : tAtom ws i = .ok (.num (m : Int), i + 1) := by
        unfold tAtom
        rw [h1, if_pos n1, n2]
      refine ⟨fun k => ?_, h2⟩
      cases k with
      | zero => exact ta
      | succ k =>
        unfold pTx
        rw [if_neg (by rw [h1]; exact num_ops n1)]
        exact ta
    | key x =>
      have g : x ∈ knw := of_decide_eq_true g
      obtain ⟨h1, h2, _⟩ := wd_of_drop h
      have ta : tAtom ws i = .ok (.key x, i + 1) := by
        unfold tAtom
        rw [h1, if_neg (by rw [knw_num x g]; decide), if_pos g]
      refine ⟨fun k => ?_, h2⟩
      cases k with
      | zero => exact ta
      | succ k =>
        unfold pTx
        rw [if_neg (by rw [h1]; exact knw_ops x g)]
        exact ta
  intro k
  induction k with
  | zero => exact fun g h => ⟨(atom g h).1 0, (atom g h).2⟩
  | succ k ih =>
    intro i e r g h
    cases e with
    | num n => exact ⟨(atom (show tGood 1 (.num n) = true from g) h).1 _, (atom (show tGood 1 (.num n) = true from g) h).2⟩
    | key x => exact ⟨(atom (show tGood 1 (.key x) = true from g) h).1 _, (atom (show tGood 1 (.key x) = true from g) h).2⟩
    | op o a b =>
      have g : tGood (k + 2) (.op o a b) = true := g
      unfold tGood at g
      rw [Bool.and_eq_true, Bool.and_eq_true] at g
      have ho : o ∈ ops := of_decide_eq_true g.1.1
      have h : ws.drop i = o :: (tWords a ++ tWords b ++ r) := h
      obtain ⟨h1, h2, _⟩ := wd_of_drop h
      rw [List.append_assoc] at h2
      obtain ⟨a1, a2⟩ := ih g.1.2 h2
      obtain ⟨b1, b2⟩ := ih g.2 a2
      have el : i + (tWords (.op o a b)).length = i + 1 + (tWords a).length + (tWords b).length := by
        show i + (o :: (tWords a ++ tWords b)).length = _
        rw [List.length_cons, List.length_append]
        omega
      refine ⟨?_, by rw [el]; exact b2⟩
      unfold pTx
      rw [if_pos (by rw [h1]; exact ho), a1]
      dsimp only
      rw [b1]
      dsimp only
      rw [h1, el]
theorem deed_fwd {r : Ru} {k j : Nat} {q : List Str} (g : RuOk k r) (h : ws.drop j = dWords r ++ q) : pDeed ws j = .ok (r.a, j + (dWords r).length) ∧ ws.drop (j + (dWords r).length) = q := by
  unfold dWords at *
  cases e : r.a with
  | none =>
    rw [e] at h
    obtain ⟨h1, h2, _⟩ := wd_of_drop h
    refine ⟨?_, h2⟩
    unfold pDeed
    rw [h1, if_neg (by decide +kernel), if_pos rfl]
    rfl
  | some p =>
    rw [e] at h
    obtain ⟨h1, h2, _⟩ := wd_of_drop h
    obtain ⟨h3, h4, _⟩ := wd_of_drop h2
    refine ⟨?_, h4⟩
    unfold pDeed
    rw [h1, if_pos rfl, h3, if_pos (g.a p e)]
    rfl
theorem rule_fwd {r : Ru} {i : Nat} {q : List Str} (g : RuOk 8 r) (h : ws.drop i = tWords r.t ++ (dWords r ++ (tWords r.e ++ tWords r.k)) ++ q) : pRule ws i = .ok (r, i + 1 + (ruWords r).length - 2) ∧ ws.drop (i + 1 + (ruWords r).length - 2) = q := by
  rw [List.append_assoc, List.append_assoc, List.append_assoc] at h
  obtain ⟨a1, a2⟩ := tx_fwd (k := 7) g.t h
  obtain ⟨b1, b2⟩ := deed_fwd g a2
  obtain ⟨c1, c2⟩ := tx_fwd (k := 7) g.e b2
  obtain ⟨d1, d2⟩ := tx_fwd (k := 7) g.k c2
  have el : i + 1 + (ruWords r).length - 2 = i + (tWords r.t).length + (dWords r).length + (tWords r.e).length + (tWords r.k).length := by
    unfold ruWords
    rw [List.length_cons, List.length_append, List.length_append, List.length_append]
    omega
  rw [el]
  refine ⟨?_, d2⟩
  unfold pRule
  rw [a1]
  dsimp only
  rw [b1]
  dsimp only
  rw [c1]
  dsimp only
  rw [d1]
theorem rules_fwd : ∀ {rs : List Ru} {f i : Nat} {found : List Ru}, rs.length ≤ f → (∀ r ∈ rs, RuOk 8 r) → ws.drop i = rsWords rs → pRules ws f found i = .ok (found ++ rs, i + (rsWords rs).length)
  | [], 0, i, found, _, _, _ => by rw [List.append_nil]; rfl
  | [], f + 1, i, found, _, _, h => by
    have : wd ws i ≠ "when" := fun z => by
      have e := drop_wd' (ws := ws) (i := i) (by rw [z]; decide +kernel)
      rw [h] at e
      cases e
    unfold pRules
    rw [if_neg this, List.append_nil]
    rfl
  | r :: rs, 0, _, _, l, _, _ => by cases l
  | r :: rs, f + 1, i, found, l, g, h => by
    have h : ws.drop i = ("when" : Str) :: (tWords r.t ++ (dWords r ++ (tWords r.e ++ tWords r.k)) ++ rsWords rs) := h
    obtain ⟨h1, h2, _⟩ := wd_of_drop h
    obtain ⟨a1, a2⟩ := rule_fwd (g r (List.mem_cons_self ..)) h2
    unfold pRules
    rw [if_pos h1, a1]
    dsimp only
    rw [rules_fwd (Nat.le_of_succ_le_succ l) (fun x hx => g x (List.mem_cons_of_mem _ hx)) a2, List.append_assoc]
    refine congrArg Except.ok (Prod.ext rfl ?_)
    show i + 1 + 1 + (ruWords r).length - 2 + (rsWords rs).length = i + (ruWords r ++ rsWords rs).length
    have : 1 ≤ (ruWords r).length := by unfold ruWords; simp
    rw [List.length_append]
    omega
theorem tac_fwd {rs : List Ru} (l : rs.length ≤ 20) (g : ∀ r ∈ rs, RuOk 8 r) : pTac (rsWords rs) = .ok rs ∧ pRules (rsWords rs) 20 [] 0 = .ok (rs, (rsWords rs).length) := by
  have h := rules_fwd (ws := rsWords rs) (i := 0) (found := []) l g rfl
  rw [List.nil_append, Nat.zero_add] at h
  refine ⟨?_, h⟩
  unfold pTac
  rw [h]
  exact if_pos rfl
/-! ### a word that fits nowhere -/
structure Odd (w : Str) : Prop where
  num : isNum w = false
  knw : w ∉ knw
  ops : w ∉ ops
  name : isName w = false
  deed : w ≠ "ask" ∧ w ≠ "say" ∧ w ≠ "when"
def oddB (w : Str) : Bool := !isNum w && !decide (w ∈ knw) && !decide (w ∈ ops) && !isName w && !decide (w = "ask") && !decide (w = "say") && !decide (w = "when")
theorem oddB_ok {w : Str} (h : oddB w = true) : Odd w := by
  unfold oddB at h
  simp only [Bool.and_eq_true, Bool.not_eq_true', decide_eq_false_iff_not] at h
  obtain ⟨⟨⟨⟨⟨⟨a, b⟩, c⟩, d⟩, e⟩, f⟩, g⟩ := h
  exact ⟨a, b, c, d, e, f, g⟩
def Agree (ws us : List Str) (n : Nat) : Prop := ∀ i, i < n → wd us i = wd ws i
section
variable {us : List Str} {n : Nat}
theorem tx_lt : ∀ {k i j : Nat} {e : TX}, pTx ws k i = .ok (e, j) → i < j := by
  have atom : ∀ {i j : Nat} {e : TX}, tAtom ws i = .ok (e, j) → i < j := by
    intro i j e h
    unfold tAtom at h
    split at h
    · cases h; omega
    · split at h
      · cases h; omega
      · cases h
  intro k
  induction k with
  | zero => exact fun h => atom h
  | succ k ih =>
    intro i j e h
    unfold pTx at h
    split at h
    · cases e1 : pTx ws k (i + 1) with
      | error q => rw [e1] at h; cases h
      | ok a =>
        obtain ⟨a, q⟩ := a
        rw [e1] at h
        dsimp only at h
        cases e2 : pTx ws k q with
        | error u => rw [e2] at h; cases h
        | ok b =>
          obtain ⟨b, u⟩ := b
          rw [e2] at h
          cases h
          have := ih e1
          have := ih e2
          omega
    · exact atom h
/-- how a reading ends in words that agree up to n and have an odd word there -/
def Cut {α : Type} (n : Nat) (x : Except Nat (α × Nat)) (a : α) (j : Nat) : Prop := (j ≤ n → x = .ok (a, j)) ∧ (n < j → x = .error n)
theorem atom_cut (ag : Agree ws us n) (od : Odd (wd us n)) {i j : Nat} {e : TX} (hi : i ≤ n) (h : tAtom ws i = .ok (e, j)) : Cut n (tAtom us i) e j := by
  have hj : j = i + 1 := by
    unfold tAtom at h
    split at h
    · cases h; rfl
    · split at h
      · cases h; rfl
      · cases h
  by_cases z : i = n
  · subst z
    refine ⟨fun l => absurd l (by omega), fun _ => ?_⟩
    unfold tAtom
    rw [od.num, if_neg Bool.false_ne_true, if_neg od.knw]
  · refine ⟨fun _ => ?_, fun l => absurd l (by omega)⟩
    unfold tAtom at h ⊢
    rw [ag i (by omega)]
    exact h
theorem tx_cut (ag : Agree ws us n) (od : Odd (wd us n)) : ∀ {k i j : Nat} {e : TX}, i ≤ n → pTx ws k i = .ok (e, j) → Cut n (pTx us k i) e j := by
  intro k
  induction k with
  | zero => exact fun hi h => atom_cut ag od hi h
  | succ k ih =>
    intro i j e hi h
    have lt := tx_lt h
    by_cases z : i = n
    · subst z
      refine ⟨fun l => absurd l (by omega), fun _ => ?_⟩
      unfold pTx tAtom
      rw [if_neg od.ops, od.num, if_neg Bool.false_ne_true, if_neg od.knw]
    have ew := ag i (by omega)
    by_cases c : wd ws i ∈ ops
    · unfold pTx at h
      rw [if_pos c] at h
      cases e1 : pTx ws k (i + 1) with
      | error q => rw [e1] at h; cases h
      | ok a =>
        obtain ⟨a, q⟩ := a
        rw [e1] at h
        dsimp only at h
        cases e2 : pTx ws k q with
        | error u => rw [e2] at h; cases h
        | ok b =>
          obtain ⟨b, u⟩ := b
          rw [e2] at h
          cases h
          have c1 := ih (by omega) e1
          have l2 := tx_lt e2
          unfold pTx
          rw [if_pos (by rw [ew]; exact c)]
          by_cases lq : q ≤ n
          · have c2 := ih lq e2
            rw [c1.1 lq]
            dsimp only
            refine ⟨fun l => ?_, fun l => ?_⟩
            · rw [c2.1 l, ew]
            · rw [c2.2 l]
          · rw [c1.2 (by omega)]
            exact ⟨fun l => absurd l (by omega), fun _ => rfl⟩
    · unfold pTx at h
      rw [if_neg c] at h
      have := atom_cut ag od hi h
      unfold pTx
      rw [if_neg (by rw [ew]; exact c)]
      exact this
theorem deed_lt {j m : Nat} {a : Option Str} (h : pDeed ws j = .ok (a, m)) : j < m := by
  unfold pDeed at h
  split at h
  · split at h
    · cases h; omega
    · cases h
  · split at h
    · cases h; omega
    · cases h
theorem deed_cut (ag : Agree ws us n) (od : Odd (wd us n)) {j m : Nat} {a : Option Str} (hj : j ≤ n) (h : pDeed ws j = .ok (a, m)) : Cut n (pDeed us j) a m := by
  have lt := deed_lt h
  by_cases z : j = n
  · subst z
    refine ⟨fun l => absurd l (by omega), fun _ => ?_⟩
    unfold pDeed
    rw [if_neg od.deed.1, if_neg od.deed.2.1]
  have ew := ag j (by omega)
  unfold pDeed at h ⊢
  rw [ew]
  by_cases c : wd ws j = "ask"
  · rw [if_pos c] at h ⊢
    by_cases c2 : isName (wd ws (j + 1)) = true
    · rw [if_pos c2] at h
      cases h
      by_cases z2 : j + 1 = n
      · rw [z2, od.name, if_neg Bool.false_ne_true]
        exact ⟨fun l => absurd l (by omega), fun _ => rfl⟩
      · rw [ag (j + 1) (by omega), if_pos c2]
        exact ⟨fun _ => rfl, fun l => absurd l (by omega)⟩
    · rw [if_neg c2] at h
      cases h
  · rw [if_neg c] at h ⊢
    by_cases c2 : wd ws j = "say"
    · rw [if_pos c2] at h ⊢
      cases h
      exact ⟨fun _ => rfl, fun l => absurd l (by omega)⟩
    · rw [if_neg c2] at h
      cases h
theorem rule_cut (ag : Agree ws us n) (od : Odd (wd us n)) {i j : Nat} {r : Ru} (hi : i ≤ n) (h : pRule ws i = .ok (r, j)) : Cut n (pRule us i) r j ∧ i < j := by
  unfold pRule at h
  cases e1 : pTx ws 7 i with
  | error q => rw [e1] at h; cases h
  | ok a =>
  obtain ⟨t, j1⟩ := a
  rw [e1] at h
  dsimp only at h
  cases e2 : pDeed ws j1 with
  | error q => rw [e2] at h; cases h
  | ok a =>
  obtain ⟨a, j2⟩ := a
  rw [e2] at h
  dsimp only at h
  cases e3 : pTx ws 7 j2 with
  | error q => rw [e3] at h; cases h
  | ok b =>
  obtain ⟨e, j3⟩ := b
  rw [e3] at h
  dsimp only at h
  cases e4 : pTx ws 7 j3 with
  | error q => rw [e4] at h; cases h
  | ok b =>
  obtain ⟨k, j4⟩ := b
  rw [e4] at h
  cases h
  have l1 := tx_lt e1
  have l2 := deed_lt e2
  have l3 := tx_lt e3
  have l4 := tx_lt e4
  refine ⟨?_, by omega⟩
  have c1 := tx_cut ag od hi e1
  unfold pRule
  by_cases z1 : j1 ≤ n
  · rw [c1.1 z1]
    dsimp only
    have c2 := deed_cut ag od z1 e2
    by_cases z2 : j2 ≤ n
    · rw [c2.1 z2]
      dsimp only
      have c3 := tx_cut ag od z2 e3
      by_cases z3 : j3 ≤ n
      · rw [c3.1 z3]
        dsimp only
        have c4 := tx_cut ag od z3 e4
        refine ⟨fun l => ?_, fun l => ?_⟩
        · rw [c4.1 l]
        · rw [c4.2 l]
      · rw [c3.2 (by omega)]
        exact ⟨fun l => absurd l (by omega), fun _ => rfl⟩
    · rw [c2.2 (by omega)]
      exact ⟨fun l => absurd l (by omega), fun _ => rfl⟩
  · rw [c1.2 (by omega)]
    exact ⟨fun l => absurd l (by omega), fun _ => rfl⟩
theorem rules_cut (ag : Agree ws us n) (od : Odd (wd us n)) : ∀ {f i j : Nat} {found rs : List Ru}, i ≤ n → n ≤ j → pRules ws f found i = .ok (rs, j) → pRules us f found i = .error n ∨ ∃ rs', pRules us f found i = .ok (rs', n)
  | 0, i, j, found, rs, hi, hj, h => by
    cases h
    obtain rfl : i = n := by omega
    exact .inr ⟨_, rfl⟩
  | f + 1, i, j, found, rs, hi, hj, h => by
    by_cases z : i = n
    · subst z
      refine .inr ⟨found, ?_⟩
      unfold pRules
      rw [if_neg od.deed.2.2]
    have ew := ag i (by omega)
    unfold pRules at h ⊢
    rw [ew]
    by_cases c : wd ws i = "when"
    · rw [if_pos c] at h ⊢
      cases e1 : pRule ws (i + 1) with
      | error q => rw [e1] at h; cases h
      | ok a =>
        obtain ⟨r, q⟩ := a
        rw [e1] at h
        dsimp only at h
        have c1 := (rule_cut ag od (by omega) e1).1
        by_cases zq : q ≤ n
        · rw [c1.1 zq]
          exact rules_cut ag od zq hj h
        · rw [c1.2 (by omega)]
          exact .inl rfl
    · rw [if_neg c] at h
      cases h
      omega
end
def tacAt (ws : List Str) : Int := match pTac ws with
  | .error i => i
  | .ok _ => -3
theorem tac_cut {rs : List Ru} (l : rs.length ≤ 20) (g : ∀ r ∈ rs, RuOk 8 r) {us : List Str} {n : Nat} (hn : n ≤ (rsWords rs).length) (ag : Agree (rsWords rs) us n) (od : Odd (wd us n)) : tacAt us = n ∨ (tacAt us = -3 ∧ n = us.length) := by
  obtain ⟨_, h⟩ := tac_fwd l g
  unfold tacAt pTac
  rcases rules_cut ag od (Nat.zero_le _) hn h with e | ⟨rs', e⟩
  · rw [e]
    exact .inl rfl
  · rw [e]
    dsimp only
    by_cases z : n = us.length
    · rw [if_pos z]
      exact .inr ⟨rfl, z⟩
    · rw [if_neg z]
      exact .inl rfl
/-! ### read, then written -/
theorem num_back' {w : Str} (h : isNum w = true) : numS ((numW w : Nat) : Int) = w := by
  have h0 := h
  unfold isNum at h
  rw [Bool.and_eq_true, Bool.and_eq_true] at h
  obtain ⟨⟨h1, h2⟩, h3⟩ := h
  have hd : NumText.AllDigits (signs w) := fun c hc => digB_iff.mp (List.all_eq_true.mp h2 c hc)
  cases e : signs w with
  | nil =>
    rw [e] at h3
    cases h3
  | cons c r =>
    rw [e] at h3
    dsimp only at h3
    by_cases hc : c = 48
    · rw [if_pos hc] at h3
      rw [of_decide_eq_true h3]
      decide +kernel
    · have hc2 := hd c (by rw [e]; exact List.mem_cons_self)
      refine str_ext' ?_
      rw [signs_numS]
      unfold numL numW
      rw [NumText.toDigits_digitsVal r.length (signs w) (by rw [e]; rfl) hd (.inr ⟨c, r, e, by omega⟩), List.map_map]
      refine (List.map_congr_left fun x hx => ?_).trans (List.map_id _)
      have := hd x hx
      exact (by decide : ∀ c : Nat, c < 58 → (Char.ofNat c).toNat = c) x (by omega)
theorem ne_emp {w : Str} {p : Str → Bool} (h : p w = true) (e : p Str.empty = false) : w ≠ Str.empty := fun z => by rw [z, e] at h; cases h
theorem tx_back : ∀ {k i j : Nat} {e : TX}, pTx ws k i = .ok (e, j) → ws.drop i = tWords e ++ ws.drop j ∧ tGood (k + 1) e = true := by
  have atom : ∀ {i j : Nat} {e : TX}, tAtom ws i = .ok (e, j) → ws.drop i = tWords e ++ ws.drop j ∧ ∀ k, tGood (k + 1) e = true := by
    intro i j e h
    unfold tAtom at h
    split at h
    · rename_i c
      cases h
      refine ⟨?_, fun k => decide_eq_true ⟨by omega, by have := isNum_le c; omega⟩⟩
      show _ = numS ((numW (wd ws i) : Nat) : Int) :: ws.drop (i + 1)
      rw [drop_wd' (ne_emp c (by decide +kernel)), num_back' c]
    · split at h
      · rename_i c
        cases h
        exact ⟨drop_wd' (fun z => by rw [z] at c; exact absurd c (by decide +kernel)), fun k => decide_eq_true c⟩
      · cases h
  intro k
  induction k with
  | zero => exact fun h => ⟨(atom h).1, (atom h).2 0⟩
  | succ k ih =>
    intro i j e h
    unfold pTx at h
    split at h
    · rename_i c
      cases e1 : pTx ws k (i + 1) with
      | error q => rw [e1] at h; cases h
      | ok a =>
        obtain ⟨a, q⟩ := a
        rw [e1] at h
        dsimp only at h
        cases e2 : pTx ws k q with
        | error u => rw [e2] at h; cases h
        | ok b =>
          obtain ⟨b, u⟩ := b
          rw [e2] at h
          cases h
          have h1 := ih e1
          have h2 := ih e2
          refine ⟨?_, ?_⟩
          · rw [drop_wd' (fun z => by rw [z] at c; exact absurd c (by decide +kernel)), h1.1, h2.1]
            show _ = wd ws i :: (tWords a ++ tWords b) ++ _
            rw [List.cons_append, List.append_assoc]
          · unfold tGood
            rw [decide_eq_true c, h1.2, h2.2]
            rfl
    · exact ⟨(atom h).1, (atom h).2 _⟩
theorem rule_back {i j : Nat} {r : Ru} (h0 : wd ws i = "when") (h : pRule ws (i + 1) = .ok (r, j)) : ws.drop i = ruWords r ++ ws.drop j ∧ RuOk 8 r := by
  unfold pRule at h
  cases e1 : pTx ws 7 (i + 1) with
  | error q => rw [e1] at h; cases h
  | ok a =>
  obtain ⟨t, j1⟩ := a
  rw [e1] at h
  dsimp only at h
  cases e2 : pDeed ws j1 with
  | error q => rw [e2] at h; cases h
  | ok a =>
  obtain ⟨a, j2⟩ := a
  rw [e2] at h
  dsimp only at h
  cases e3 : pTx ws 7 j2 with
  | error q => rw [e3] at h; cases h
  | ok b =>
  obtain ⟨e, j3⟩ := b
  rw [e3] at h
  dsimp only at h
  cases e4 : pTx ws 7 j3 with
  | error q => rw [e4] at h; cases h
  | ok b =>
  obtain ⟨k, j4⟩ := b
  rw [e4] at h
  cases h
  have b1 := tx_back e1
  have b3 := tx_back e3
  have b4 := tx_back e4
  have b2 : ws.drop j1 = dWords ⟨t, a, e, k⟩ ++ ws.drop j2 ∧ ∀ p, a = some p → isName p = true := by
    unfold pDeed at e2
    split at e2
    · rename_i c
      split at e2
      · rename_i c2
        cases e2
        refine ⟨?_, fun p hp => by cases hp; exact c2⟩
        rw [drop_wd' (by rw [c]; decide +kernel), c, drop_wd' (ne_emp c2 (by decide +kernel))]
        rfl
      · cases e2
    · split at e2
      · rename_i c
        cases e2
        refine ⟨?_, fun p hp => by cases hp⟩
        rw [drop_wd' (by rw [c]; decide +kernel), c]
        rfl
      · cases e2
  refine ⟨?_, b1.2, b3.2, b4.2, b2.2⟩
  rw [drop_wd' (by rw [h0]; decide +kernel), h0, b1.1, b2.1, b3.1, b4.1]
  show _ = ("when" : Str) :: (tWords t ++ (dWords ⟨t, a, e, k⟩ ++ (tWords e ++ tWords k))) ++ _
  rw [List.cons_append, List.append_assoc, List.append_assoc, List.append_assoc]
theorem rules_back : ∀ {f i j : Nat} {found rs : List Ru}, pRules ws f found i = .ok (rs, j) → ∃ new, rs = found ++ new ∧ ws.drop i = rsWords new ++ ws.drop j ∧ (∀ r ∈ new, RuOk 8 r) ∧ new.length ≤ f
  | 0, i, j, found, rs, h => by
    cases h
    exact ⟨[], (List.append_nil _).symm, rfl, fun r hr => (by cases hr), Nat.le_refl _⟩
  | f + 1, i, j, found, rs, h => by
    unfold pRules at h
    split at h
    · rename_i c
      cases e1 : pRule ws (i + 1) with
      | error q => rw [e1] at h; cases h
      | ok a =>
        obtain ⟨r, q⟩ := a
        rw [e1] at h
        obtain ⟨new, rfl, h2, h3, h4⟩ := rules_back h
        have b := rule_back c e1
        refine ⟨r :: new, by rw [List.append_assoc]; rfl, ?_, fun x hx => ?_, Nat.succ_le_succ h4⟩
        · rw [b.1, h2]
          show _ = ruWords r ++ rsWords new ++ _
          rw [List.append_assoc]
        · rcases List.mem_cons.mp hx with rfl | hx
          · exact b.2
          · exact h3 x hx
    · cases h
      exact ⟨[], (List.append_nil _).symm, rfl, fun r hr => (by cases hr), Nat.zero_le _⟩
theorem tac_back {rs : List Ru} (h : pTac ws = .ok rs) : rsWords rs = ws ∧ (∀ r ∈ rs, RuOk 8 r) ∧ rs.length ≤ 20 := by
  unfold pTac at h
  cases e1 : pRules ws 20 [] 0 with
  | error q => rw [e1] at h; cases h
  | ok a =>
    obtain ⟨rs', j⟩ := a
    rw [e1] at h
    dsimp only at h
    split at h
    · rename_i c
      cases h
      obtain ⟨new, rfl, h2, h3, h4⟩ := rules_back e1
      rw [c, List.drop_length, List.append_nil] at h2
      exact ⟨h2.symm, h3, h4⟩
    · cases h
end Pz
set_option Elab.async false
set_option linter.all false
set_option maxRecDepth 100000
set_option maxHeartbeats 2000000
/-! xs[::1] and xs[::-1] of a list. -/
namespace SlStep
open PySem PySem.W PySem.Calls PyProof.Rows L2
theorem pick_one (items : Array Value) : slicePick items none none (some 1) = items.toList.toArray := by
  have h := slicePick_cut items.toList none none
  rw [show items.toList.toArray = items from rfl] at h ⊢
  have e : slicePick items none none (some 1) = slicePick items none none none := rfl
  rw [e, h]
  simp [HT.sIx, List.take_of_length_le (show items.toList.length ≤ items.size from Nat.le_of_eq Array.length_toList)]
def tSlS (K : PySem.W.Frag) (te ts : TE) : TE := fun σ H Q => te σ H fun x H1 => ts σ H1 fun y H2 => ∃ i, y = .int i ∧ (i = 1 ∨ i = -1) ∧ ∃ a xs, x = .ref a ∧ SqL K H2 a xs ∧ ∀ p, H2 p = none → Q (.ref p) (upd H2 p (.lst (if i = 1 then xs else xs.reverse)))
section
variable {X : Cx} {e st : Expr} {te ts : TE} {pos p2 : Pos}
theorem vals_rev {xs : List V} {us : List Value} (r : Vals xs us) : Vals xs.reverse us.reverse := by
  induction r with
  | nil => exact .nil
  | cons h t ih =>
    rw [List.reverse_cons, List.reverse_cons]
    exact ih.append (.cons h .nil)
theorem pe_sliceS (K : PySem.W.Frag) (hK : X.K = K) (he : PE X e te) (hs : PE X st ts) : PE X (.Subscript e (.Slice none none (some st) p2) pos) (tSlS K te ts) := by
  subst hK
  refine ⟨fun pins s σ H Q I h => ?_⟩
  refine Subscript_ (thn (he.run pins s σ H _ I h) fun v s1 ⟨x, H1, I1, r1, q1⟩ => ?_)
  refine wpAny_Slice ?_
  rw [evalPart_none]
  refine wpAny_pure (wpAny_pure ?_)
  rw [evalPart_some]
  refine thn (hs.run pins s1 σ H1 _ I1 q1) fun vk s3 ⟨y, H3, I3, ry, q3⟩ => ?_
  obtain ⟨i, rfl, hi, a, xs, rfl, hx, q⟩ := q3
  obtain ⟨t, rfl⟩ := ry
  have I4 : Inv X pins σ H3 { s3 with heap := s3.heap.push { cls := .type "slice", data := .fields #[.none, .none, .int i t] } } := I3.kept (t' := s3.toks) fun b ob q => Heap.get?_push_of_some _ q
  show wpAny (model X.prog X.w) X.A (subscriptTail e (.Slice none none (some st) p2) v (.ref s3.heap.objs.size)) (EP X pins σ Q) X.xe { s3 with heap := s3.heap.push { cls := .type "slice", data := .fields #[.none, .none, .int i t] } }
  cases r1
  obtain ⟨its, r, ht, hz⟩ := I4.list hx
  have hlen := r.length
  refine tail_any (ops := [.ref a, .ref s3.heap.objs.size]) (ht.isList.typeIs) (slot_list_getitem.lookup) ?_ (by with_unfolding_all rfl)
  refine wpAny_getItem_list_slice ht.isList (Heap.IsSliceOf.new ..) .none .none (.int i t) (by rcases hi with rfl | rfl <;> decide) ?_ (by rw [List.size_toArray] <;> omega)
  have ep : slicePick its.toArray none none (some i) = (if i = 1 then its else its.reverse).toArray := by
    rcases hi with rfl | rfl
    · rw [pick_one, if_pos rfl]
    · rw [krv_pick, if_neg (by decide)]
  rw [ep]
  refine ⟨.ref _, _, I4.laid (t' := s3.toks) (o := .lst (if i = 1 then xs else xs.reverse)) (fun b ob q => Heap.get?_push_of_some _ q) (Nat.le_refl _) ?_, rfl, q _ (I4.hok.fresh (Nat.le_refl _))⟩
  refine ⟨?_, (if i = 1 then its else its.reverse), 0, ?_, Heap.get?_push_size _ rfl⟩
  · split
    · omega
    · rw [List.length_reverse]; omega
  · split
    · exact r
    · exact vals_rev r
end
end SlStep
set_option Elab.async false
set_option linter.all false
set_option maxRecDepth 100000
set_option maxHeartbeats 4000000
namespace Toy
open PySem L2 Mine NdefX Gm Pz
def top (i : Nat) : Stmt := PySem.Challenge.pw_tellsnone_k71_texts_of_tactics.main.body.getD i (.Pass ⟨0, 0, 0, 0⟩)
abbrev s_BadText_init : Stmt := inClass (top 2) 0
def oke_BadText : V → Prop := fun y => ∃ i : Int, y = .int i ∧ i.natAbs < 2 ^ 64
theorem err_BadText {P : Program} {w : World} {K : PySem.W.Frag} {mg : Str → Option Value} {base : Heap} {k : Nat} {C f : Addr} {fd : FuncData} {file : Str} (F : ErrF K mg C f fd "BadText.__init__" s_BadText_init file "at") (hP : PrF P file) :
    FnOk P w K mg base CX0 (k + 1) f fd [("self" : Str), "at"] (spErr C "at" oke_BadText) :=
  err_ok F hP.1 hP.2 rfl (nscope_by (by decide +kernel)) rfl rfl rfl (fun _ => rfl) (fun _ => rfl) (fun _ => rfl) (fun _ => rfl) (by decide) (by decide) (fun X hN hs => pe_joined (.cons pe_str (.cons (pe_fmt (pe_var (i := 1) (by rw [hN]; rfl) (by rw [hs]; exact .inl rfl))) (.cons pe_str .nil))))
    (by
      rintro σ H y Q e ⟨i, rfl, hi⟩ q
      exact js_I3 (by decide +kernel) (by decide +kernel) e hi q)
abbrev s_is_name : Stmt := top 11
theorem sc_is_name : FnScope ["word", "sign"] ["word"] (defScope s_is_name) := ⟨rfl, rfl, rfl, by decide +kernel, rfl, by decide +kernel, by decide +kernel⟩
abbrev s_is_number : Stmt := top 12
theorem sc_is_number : FnScope ["word", "sign"] ["word"] (defScope s_is_number) := ⟨rfl, rfl, rfl, by decide +kernel, rfl, by decide +kernel, by decide +kernel⟩
abbrev s_Words_init : Stmt := inClass (top 13) 0
theorem sc_Words_init : FnScope ["self", "text"] ["self", "text"] (defScope s_Words_init) := ⟨rfl, rfl, rfl, by decide +kernel, rfl, by decide +kernel, by decide +kernel⟩
abbrev s_Words_ended : Stmt := inClass (top 13) 1
theorem sc_Words_ended : FnScope ["self"] ["self"] (defScope s_Words_ended) := ⟨rfl, rfl, rfl, by decide +kernel, rfl, by decide +kernel, by decide +kernel⟩
abbrev s_Words_ahead : Stmt := inClass (top 13) 2
theorem sc_Words_ahead : FnScope ["self"] ["self"] (defScope s_Words_ahead) := ⟨rfl, rfl, rfl, by decide +kernel, rfl, by decide +kernel, by decide +kernel⟩
abbrev s_Words_refuse : Stmt := inClass (top 13) 3
theorem sc_Words_refuse : FnScope ["self"] ["self"] (defScope s_Words_refuse) := ⟨rfl, rfl, rfl, by decide +kernel, rfl, by decide +kernel, by decide +kernel⟩
abbrev s_Words_take : Stmt := inClass (top 13) 4
theorem sc_Words_take : FnScope ["self", "word"] ["self"] (defScope s_Words_take) := ⟨rfl, rfl, rfl, by decide +kernel, rfl, by decide +kernel, by decide +kernel⟩
abbrev s_Words_one_of : Stmt := inClass (top 13) 5
theorem sc_Words_one_of : FnScope ["self", "choices"] ["self", "choices"] (defScope s_Words_one_of) := ⟨rfl, rfl, rfl, by decide +kernel, rfl, by decide +kernel, by decide +kernel⟩
abbrev s_Words_name : Stmt := inClass (top 13) 6
theorem sc_Words_name : FnScope ["self", "taken"] ["self", "taken"] (defScope s_Words_name) := ⟨rfl, rfl, rfl, by decide +kernel, rfl, by decide +kernel, by decide +kernel⟩
abbrev s_Words_number : Stmt := inClass (top 13) 7
theorem sc_Words_number : FnScope ["self", "least", "greatest"] ["self", "least", "greatest"] (defScope s_Words_number) := ⟨rfl, rfl, rfl, by decide +kernel, rfl, by decide +kernel, by decide +kernel⟩
abbrev s_Words_finish : Stmt := inClass (top 13) 8
theorem sc_Words_finish : FnScope ["self"] ["self"] (defScope s_Words_finish) := ⟨rfl, rfl, rfl, by decide +kernel, rfl, by decide +kernel, by decide +kernel⟩
abbrev s_read_expression : Stmt := top 18
theorem sc_read_expression : FnScope ["words", "meanings", "tables", "depth", "word", "left", "table"] ["words", "meanings", "tables", "depth"] (defScope s_read_expression) := ⟨rfl, rfl, rfl, by decide +kernel, rfl, by decide +kernel, by decide +kernel⟩
abbrev s_expression_words : Stmt := top 19
theorem sc_expression_words : FnScope ["expression", "head"] ["expression"] (defScope s_expression_words) := ⟨rfl, rfl, rfl, by decide +kernel, rfl, by decide +kernel, by decide +kernel⟩
abbrev s_Tactic_init : Stmt := inClass (top 23) 0
theorem sc_Tactic_init : FnScope ["self", "rules"] ["self", "rules"] (defScope s_Tactic_init) := ⟨rfl, rfl, rfl, by decide +kernel, rfl, by decide +kernel, by decide +kernel⟩
abbrev s_Tactic_eq : Stmt := inClass (top 23) 1
theorem sc_Tactic_eq : FnScope ["self", "other"] ["self", "other"] (defScope s_Tactic_eq) := ⟨rfl, rfl, rfl, by decide +kernel, rfl, by decide +kernel, by decide +kernel⟩
abbrev s_read_tactic : Stmt := top 24
theorem sc_read_tactic : FnScope ["text", "words", "rules"] ["text"] (defScope s_read_tactic) := ⟨rfl, rfl, rfl, by decide +kernel, rfl, by decide +kernel, by decide +kernel⟩
abbrev s_read_rule : Stmt := top 25
theorem sc_read_rule : FnScope ["words", "test", "word", "named", "deed"] ["words"] (defScope s_read_rule) := ⟨rfl, rfl, rfl, by decide +kernel, rfl, by decide +kernel, by decide +kernel⟩
abbrev s_read_part : Stmt := top 26
theorem sc_read_part : FnScope ["words", "word"] ["words"] (defScope s_read_part) := ⟨rfl, rfl, rfl, by decide +kernel, rfl, by decide +kernel, by decide +kernel⟩
abbrev s_tactic_text : Stmt := top 27
theorem sc_tactic_text : FnScope ["tactic", "found", "test", "deed", "keep"] ["tactic"] (defScope s_tactic_text) := ⟨rfl, rfl, rfl, by decide +kernel, rfl, by decide +kernel, by decide +kernel⟩
abbrev s_law_cell : Stmt := top 29
theorem sc_law_cell : FnScope ["script", "k"] ["script", "k"] (defScope s_law_cell) := ⟨rfl, rfl, rfl, by decide +kernel, rfl, by decide +kernel, by decide +kernel⟩
abbrev s_law_row : Stmt := top 31
theorem sc_law_row : FnScope ["cell", "count", "size", "state", "row", "k"] ["cell", "count", "size"] (defScope s_law_row) := ⟨rfl, rfl, rfl, by decide +kernel, rfl, by decide +kernel, by decide +kernel⟩
abbrev s_law_sight : Stmt := top 32
theorem sc_law_sight : FnScope ["cell", "kind", "rest", "sign", "left"] ["cell"] (defScope s_law_sight) := ⟨rfl, rfl, rfl, by decide +kernel, rfl, by decide +kernel, by decide +kernel⟩
abbrev s_law_rule : Stmt := top 33
theorem sc_law_rule : FnScope ["cell", "procs", "digits", "deed"] ["cell", "procs"] (defScope s_law_rule) := ⟨rfl, rfl, rfl, by decide +kernel, rfl, by decide +kernel, by decide +kernel⟩
abbrev s_law_words : Stmt := top 34
theorem sc_law_words : FnScope ["sight"] ["sight"] (defScope s_law_words) := ⟨rfl, rfl, rfl, by decide +kernel, rfl, by decide +kernel, by decide +kernel⟩
abbrev s_law_all : Stmt := top 35
theorem sc_law_all : FnScope ["rules", "words", "rule"] ["rules"] (defScope s_law_all) := ⟨rfl, rfl, rfl, by decide +kernel, rfl, by decide +kernel, by decide +kernel⟩
abbrev s_law_strange : Stmt := top 36
theorem sc_law_strange : FnScope ["cell", "words", "found", "k", "word"] ["cell"] (defScope s_law_strange) := ⟨rfl, rfl, rfl, by decide +kernel, rfl, by decide +kernel, by decide +kernel⟩
abbrev s_law_at : Stmt := top 37
theorem sc_law_at : FnScope ["words", "tactic", "e"] ["words"] (defScope s_law_at) := ⟨rfl, rfl, rfl, by decide +kernel, rfl, by decide +kernel, by decide +kernel⟩
abbrev s_law_bounds : Stmt := top 38
theorem sc_law_bounds : FnScope ["count", "deep", "rule", "due", "heads", "k", "rest", "left", "right", "dues"] ["count", "deep"] (defScope s_law_bounds) := ⟨rfl, rfl, rfl, by decide +kernel, rfl, by decide +kernel, by decide +kernel⟩
abbrev s_law : Stmt := top 39
theorem sc_law : FnScope ["script", "named", "rules", "cell", "words", "tactic", "at", "one", "other", "turned", "keys", "word"] ["script"] (defScope s_law) := ⟨rfl, rfl, rfl, by decide +kernel, rfl, by decide +kernel, by decide +kernel⟩
structure Txt (K : PySem.W.Frag) (mg : Str → Option Value) (file : Str) where
  o_n : PySem.W.specialIn K (.builtin "object.__class__") "__get__" = some (some (.builtin "getset_descriptor.__get__"))
  o_t : PySem.W.takesIn K (.builtin "object.__class__") = some true
  C_Words : Addr
  g_Words : mg "Words" = some (.ref C_Words)
  cl_Words : Cls K C_Words
  sf_Words : PySem.W.selfFirst K C_Words = true
  na_Words_words : NoAttr K C_Words "words"
  na_Words_at : NoAttr K C_Words "at"
  C_Tactic : Addr
  g_Tactic : mg "Tactic" = some (.ref C_Tactic)
  cl_Tactic : Cls K C_Tactic
  sf_Tactic : PySem.W.selfFirst K C_Tactic = true
  na_Tactic_rules : NoAttr K C_Tactic "rules"
  ia_Tactic : PySem.W.findIn K (.ref C_Tactic) "__class__" = some (some (.builtin "object.__class__"))
  im_Tactic : PySem.W.mroIn K C_Tactic (.type "object") = some true
  ik_Tactic : PySem.W.kitOne K (.ref C_Tactic) (.ref C_Tactic) = some true
  a_is_name : Addr
  fd_is_name : FuncData
  F_is_name : Fun K "is_name" "is_name" s_is_name a_is_name fd_is_name
  b_is_name : L2.Binds K fd_is_name ["word"] []
  k_is_name : PySem.W.keepIn K (.ref a_is_name) = true
  g_is_name : mg "is_name" = some (.ref a_is_name)
  a_is_number : Addr
  fd_is_number : FuncData
  F_is_number : Fun K "is_number" "is_number" s_is_number a_is_number fd_is_number
  b_is_number : L2.Binds K fd_is_number ["word"] []
  k_is_number : PySem.W.keepIn K (.ref a_is_number) = true
  g_is_number : mg "is_number" = some (.ref a_is_number)
  a_Words_init : Addr
  fd_Words_init : FuncData
  F_Words_init : Fun K "__init__" "Words.__init__" s_Words_init a_Words_init fd_Words_init
  b_Words_init : L2.Binds K fd_Words_init ["self", "text"] []
  k_Words_init : PySem.W.keepIn K (.ref a_Words_init) = true
  m_Words_init : Meth K C_Words "__init__" a_Words_init
  a_Words_ended : Addr
  fd_Words_ended : FuncData
  F_Words_ended : Fun K "ended" "Words.ended" s_Words_ended a_Words_ended fd_Words_ended
  b_Words_ended : L2.Binds K fd_Words_ended ["self"] []
  k_Words_ended : PySem.W.keepIn K (.ref a_Words_ended) = true
  m_Words_ended : Meth K C_Words "ended" a_Words_ended
  a_Words_ahead : Addr
  fd_Words_ahead : FuncData
  F_Words_ahead : Fun K "ahead" "Words.ahead" s_Words_ahead a_Words_ahead fd_Words_ahead
  b_Words_ahead : L2.Binds K fd_Words_ahead ["self"] []
  k_Words_ahead : PySem.W.keepIn K (.ref a_Words_ahead) = true
  m_Words_ahead : Meth K C_Words "ahead" a_Words_ahead
  a_Words_refuse : Addr
  fd_Words_refuse : FuncData
  F_Words_refuse : Fun K "refuse" "Words.refuse" s_Words_refuse a_Words_refuse fd_Words_refuse
  b_Words_refuse : L2.Binds K fd_Words_refuse ["self"] []
  k_Words_refuse : PySem.W.keepIn K (.ref a_Words_refuse) = true
  m_Words_refuse : Meth K C_Words "refuse" a_Words_refuse
  a_Words_take : Addr
  fd_Words_take : FuncData
  F_Words_take : Fun K "take" "Words.take" s_Words_take a_Words_take fd_Words_take
  b_Words_take : L2.Binds K fd_Words_take ["self"] []
  k_Words_take : PySem.W.keepIn K (.ref a_Words_take) = true
  m_Words_take : Meth K C_Words "take" a_Words_take
  a_Words_one_of : Addr
  fd_Words_one_of : FuncData
  F_Words_one_of : Fun K "one_of" "Words.one_of" s_Words_one_of a_Words_one_of fd_Words_one_of
  b_Words_one_of : L2.Binds K fd_Words_one_of ["self", "choices"] []
  k_Words_one_of : PySem.W.keepIn K (.ref a_Words_one_of) = true
  m_Words_one_of : Meth K C_Words "one_of" a_Words_one_of
  a_Words_name : Addr
  fd_Words_name : FuncData
  te0_Words_name : Addr
  qe0_Words_name : ∀ H, SqT K H te0_Words_name []
  F_Words_name : FunD K "name" "Words.name" (defArgs s_Words_name) (defBody s_Words_name) (defScope s_Words_name) [.ref te0_Words_name] [] a_Words_name fd_Words_name
  ds0_Words_name : List Value
  dv0_Words_name : Vals [.ref te0_Words_name] ds0_Words_name
  db0_Words_name : L2.Binds K fd_Words_name ["self", "taken"] ds0_Words_name
  b_Words_name : L2.Binds K fd_Words_name ["self", "taken"] []
  k_Words_name : PySem.W.keepIn K (.ref a_Words_name) = true
  m_Words_name : Meth K C_Words "name" a_Words_name
  a_Words_number : Addr
  fd_Words_number : FuncData
  F_Words_number : Fun K "number" "Words.number" s_Words_number a_Words_number fd_Words_number
  b_Words_number : L2.Binds K fd_Words_number ["self", "least", "greatest"] []
  k_Words_number : PySem.W.keepIn K (.ref a_Words_number) = true
  m_Words_number : Meth K C_Words "number" a_Words_number
  a_Words_finish : Addr
  fd_Words_finish : FuncData
  F_Words_finish : Fun K "finish" "Words.finish" s_Words_finish a_Words_finish fd_Words_finish
  b_Words_finish : L2.Binds K fd_Words_finish ["self"] []
  k_Words_finish : PySem.W.keepIn K (.ref a_Words_finish) = true
  m_Words_finish : Meth K C_Words "finish" a_Words_finish
  a_read_expression : Addr
  fd_read_expression : FuncData
  F_read_expression : FunD K "read_expression" "read_expression" (defArgs s_read_expression) (defBody s_read_expression) (defScope s_read_expression) [.int 1] [] a_read_expression fd_read_expression
  ds0_read_expression : List Value
  dv0_read_expression : Vals [.int 1] ds0_read_expression
  db0_read_expression : L2.Binds K fd_read_expression ["words", "meanings", "tables", "depth"] ds0_read_expression
  b_read_expression : L2.Binds K fd_read_expression ["words", "meanings", "tables", "depth"] []
  k_read_expression : PySem.W.keepIn K (.ref a_read_expression) = true
  g_read_expression : mg "read_expression" = some (.ref a_read_expression)
  a_expression_words : Addr
  fd_expression_words : FuncData
  F_expression_words : Fun K "expression_words" "expression_words" s_expression_words a_expression_words fd_expression_words
  b_expression_words : L2.Binds K fd_expression_words ["expression"] []
  k_expression_words : PySem.W.keepIn K (.ref a_expression_words) = true
  g_expression_words : mg "expression_words" = some (.ref a_expression_words)
  a_Tactic_init : Addr
  fd_Tactic_init : FuncData
  F_Tactic_init : Fun K "__init__" "Tactic.__init__" s_Tactic_init a_Tactic_init fd_Tactic_init
  b_Tactic_init : L2.Binds K fd_Tactic_init ["self", "rules"] []
  k_Tactic_init : PySem.W.keepIn K (.ref a_Tactic_init) = true
  m_Tactic_init : Meth K C_Tactic "__init__" a_Tactic_init
  a_Tactic_eq : Addr
  fd_Tactic_eq : FuncData
  F_Tactic_eq : Fun K "__eq__" "Tactic.__eq__" s_Tactic_eq a_Tactic_eq fd_Tactic_eq
  b_Tactic_eq : L2.Binds K fd_Tactic_eq ["self", "other"] []
  k_Tactic_eq : PySem.W.keepIn K (.ref a_Tactic_eq) = true
  m_Tactic_eq : Meth K C_Tactic "__eq__" a_Tactic_eq
  a_read_tactic : Addr
  fd_read_tactic : FuncData
  F_read_tactic : Fun K "read_tactic" "read_tactic" s_read_tactic a_read_tactic fd_read_tactic
  b_read_tactic : L2.Binds K fd_read_tactic ["text"] []
  k_read_tactic : PySem.W.keepIn K (.ref a_read_tactic) = true
  g_read_tactic : mg "read_tactic" = some (.ref a_read_tactic)
  a_read_rule : Addr
  fd_read_rule : FuncData
  F_read_rule : Fun K "read_rule" "read_rule" s_read_rule a_read_rule fd_read_rule
  b_read_rule : L2.Binds K fd_read_rule ["words"] []
  k_read_rule : PySem.W.keepIn K (.ref a_read_rule) = true
  g_read_rule : mg "read_rule" = some (.ref a_read_rule)
  a_read_part : Addr
  fd_read_part : FuncData
  F_read_part : Fun K "read_part" "read_part" s_read_part a_read_part fd_read_part
  b_read_part : L2.Binds K fd_read_part ["words"] []
  k_read_part : PySem.W.keepIn K (.ref a_read_part) = true
  g_read_part : mg "read_part" = some (.ref a_read_part)
  a_tactic_text : Addr
  fd_tactic_text : FuncData
  F_tactic_text : Fun K "tactic_text" "tactic_text" s_tactic_text a_tactic_text fd_tactic_text
  b_tactic_text : L2.Binds K fd_tactic_text ["tactic"] []
  k_tactic_text : PySem.W.keepIn K (.ref a_tactic_text) = true
  g_tactic_text : mg "tactic_text" = some (.ref a_tactic_text)
  a_law_cell : Addr
  fd_law_cell : FuncData
  F_law_cell : Fun K "_law_cell" "_law_cell" s_law_cell a_law_cell fd_law_cell
  b_law_cell : L2.Binds K fd_law_cell ["script", "k"] []
  k_law_cell : PySem.W.keepIn K (.ref a_law_cell) = true
  g_law_cell : mg "_law_cell" = some (.ref a_law_cell)
  a_law_row : Addr
  fd_law_row : FuncData
  F_law_row : Fun K "_law_row" "_law_row" s_law_row a_law_row fd_law_row
  b_law_row : L2.Binds K fd_law_row ["cell", "count", "size"] []
  k_law_row : PySem.W.keepIn K (.ref a_law_row) = true
  g_law_row : mg "_law_row" = some (.ref a_law_row)
  a_law_sight : Addr
  fd_law_sight : FuncData
  F_law_sight : Fun K "_law_sight" "_law_sight" s_law_sight a_law_sight fd_law_sight
  b_law_sight : L2.Binds K fd_law_sight ["cell"] []
  k_law_sight : PySem.W.keepIn K (.ref a_law_sight) = true
  g_law_sight : mg "_law_sight" = some (.ref a_law_sight)
  a_law_rule : Addr
  fd_law_rule : FuncData
  F_law_rule : Fun K "_law_rule" "_law_rule" s_law_rule a_law_rule fd_law_rule
  b_law_rule : L2.Binds K fd_law_rule ["cell", "procs"] []
  k_law_rule : PySem.W.keepIn K (.ref a_law_rule) = true
  g_law_rule : mg "_law_rule" = some (.ref a_law_rule)
  a_law_words : Addr
  fd_law_words : FuncData
  F_law_words : Fun K "_law_words" "_law_words" s_law_words a_law_words fd_law_words
  b_law_words : L2.Binds K fd_law_words ["sight"] []
  k_law_words : PySem.W.keepIn K (.ref a_law_words) = true
  g_law_words : mg "_law_words" = some (.ref a_law_words)
  a_law_all : Addr
  fd_law_all : FuncData
  F_law_all : Fun K "_law_all" "_law_all" s_law_all a_law_all fd_law_all
  b_law_all : L2.Binds K fd_law_all ["rules"] []
  k_law_all : PySem.W.keepIn K (.ref a_law_all) = true
  g_law_all : mg "_law_all" = some (.ref a_law_all)
  a_law_strange : Addr
  fd_law_strange : FuncData
  F_law_strange : Fun K "_law_strange" "_law_strange" s_law_strange a_law_strange fd_law_strange
  b_law_strange : L2.Binds K fd_law_strange ["cell"] []
  k_law_strange : PySem.W.keepIn K (.ref a_law_strange) = true
  g_law_strange : mg "_law_strange" = some (.ref a_law_strange)
  a_law_at : Addr
  fd_law_at : FuncData
  F_law_at : Fun K "_law_at" "_law_at" s_law_at a_law_at fd_law_at
  b_law_at : L2.Binds K fd_law_at ["words"] []
  k_law_at : PySem.W.keepIn K (.ref a_law_at) = true
  g_law_at : mg "_law_at" = some (.ref a_law_at)
  a_law_bounds : Addr
  fd_law_bounds : FuncData
  F_law_bounds : Fun K "_law_bounds" "_law_bounds" s_law_bounds a_law_bounds fd_law_bounds
  b_law_bounds : L2.Binds K fd_law_bounds ["count", "deep"] []
  k_law_bounds : PySem.W.keepIn K (.ref a_law_bounds) = true
  g_law_bounds : mg "_law_bounds" = some (.ref a_law_bounds)
  a_law : Addr
  fd_law : FuncData
  F_law : Fun K "law" "law" s_law a_law fd_law
  b_law : L2.Binds K fd_law ["script"] []
  k_law : PySem.W.keepIn K (.ref a_law) = true
  g_law : mg "law" = some (.ref a_law)
  mk_Words : Mk K C_Words a_Words_init
  mk_Tactic : Mk K C_Tactic a_Tactic_init
  C_BadText : Addr
  g_BadText : mg "BadText" = some (.ref C_BadText)
  kc_BadText : PySem.W.keepIn K (.ref C_BadText) = true
  xb_BadText : PySem.W.subIn K (.ref C_BadText) (.type "BaseException") = some true
  xt_BadText : PySem.W.typeIn K (.ref C_BadText) = some (.type "type")
  xd_BadText : PySem.W.hasDictIn K C_BadText = true
  a_BadText_init : Addr
  fd_BadText_init : FuncData
  E_BadText : ErrF K mg C_BadText a_BadText_init fd_BadText_init "BadText.__init__" s_BadText_init file "at"
  b_BadText_init : L2.Binds K fd_BadText_init [("self" : Str), "at"] []
  z_super : mg "super" = none
  C_PlayError : Addr
  g_PlayError : mg "PlayError" = some (.ref C_PlayError)
  kc_PlayError : PySem.W.keepIn K (.ref C_PlayError) = true
  xb_PlayError : PySem.W.subIn K (.ref C_PlayError) (.type "BaseException") = some true
  xt_PlayError : PySem.W.typeIn K (.ref C_PlayError) = some (.type "type")
  xd_PlayError : PySem.W.hasDictIn K C_PlayError = true
  C_BadPaper : Addr
  g_BadPaper : mg "BadPaper" = some (.ref C_BadPaper)
  ec_BadText : ExcC K C_BadText
  a_OPERATORS : Addr
  g_OPERATORS : mg "OPERATORS" = some (.ref a_OPERATORS)
  q_OPERATORS : ∀ H, SqT K H a_OPERATORS ((["+", "-", "*", "/", "mod", "<", "="] : List Str).map V.str)
  a_LOOKS : Addr
  g_LOOKS : mg "LOOKS" = some (.ref a_LOOKS)
  q_LOOKS : ∀ H, SqT K H a_LOOKS ((["has", "cell"] : List Str).map V.str)
  g_DEEPEST_EXPRESSION : ∃ t, mg "DEEPEST_EXPRESSION" = some (.int 8 t)
  g_LONGEST_NAME : ∃ t, mg "LONGEST_NAME" = some (.int 12 t)
  g_LONGEST_NUMBER : ∃ t, mg "LONGEST_NUMBER" = some (.int 5 t)
  g_GREATEST_NUMBER : ∃ t, mg "GREATEST_NUMBER" = some (.int 65535 t)
  g_LETTERS : ∃ t, mg "LETTERS" = some (.str "abcdefghijklmnopqrstuvwxyz" t)
  g_DIGITS : ∃ t, mg "DIGITS" = some (.str "0123456789" t)
  a_KEY_WORDS : Addr
  g_KEY_WORDS : mg "KEY_WORDS" = some (.ref a_KEY_WORDS)
  q_KEY_WORDS : ∀ H, SqT K H a_KEY_WORDS ((["var", "table", "lots", "proc", "local", "set", "let", "draw", "put", "lot", "ask", "if", "else", "end", "bad", "after", "answer", "has", "cell", "mod"] : List Str).map V.str)
  g_MOST_RULES : ∃ t, mg "MOST_RULES" = some (.int 20 t)
  a_KNOWN : Addr
  g_KNOWN : mg "KNOWN" = some (.ref a_KNOWN)
  q_KNOWN : ∀ H, SqT K H a_KNOWN ((["last", "made", "kept"] : List Str).map V.str)
  z_len : mg "len" = none
  z_all : mg "all" = none
  z_int : mg "int" = none
  z_str : mg "str" = none
  z_tuple : mg "tuple" = none
  z_list : mg "list" = none
  z_range : mg "range" = none
  z_isinstance : mg "isinstance" = none
  z_abs : mg "abs" = none
  xga_BadText : PySem.W.findIn K (.ref C_BadText) "__getattribute__" = some (some (.builtin "BaseException.__getattribute__"))
  xgg_BadText : PySem.W.findIn K (.ref C_BadText) "__getattr__" = some none
  sub_tp : PySem.W.subIn K (.ref C_BadText) (.ref C_PlayError) = some true
  ki_tt : PySem.W.kitOne K (.ref C_BadText) (.ref C_BadText) = some true
  ki_tp : PySem.W.kitOne K (.ref C_BadText) (.ref C_BadPaper) = some false
def spIsName : Sp := fun vs H Q _ => ∃ x : Str, vs = [.str x] ∧ x.length ≤ 1000000 ∧ ∀ H', Same H H' → Q (.bl (isName x)) H'
def spIsNum : Sp := fun vs H Q _ => ∃ x : Str, vs = [.str x] ∧ x.length ≤ 1000000 ∧ ∀ H', Same H H' → Q (.bl (isNum x)) H'
theorem a_le : (1000000 : Nat) ≤ sizeLine := by decide
theorem all_map {α : Type} (f : α → Bool) (xs : List α) : (xs.map f).all id = xs.all f := by
  rw [List.all_map]
  rfl
theorem tk_next {α β : Type} (f : α → β) (xs : List α) {i : Nat} {c : α} (h : xs[i]? = some c) : (xs.take i).map f ++ [f c] = (xs.take (i + 1)).map f := by
  rw [take_more h, List.map_append]
  rfl
section
variable {P : Program} {w : World} {K : PySem.W.Frag} {mg : Str → Option Value} {base : Heap} {file : Str}

theorem ok_is_name (T : Txt K mg file) : FnOk P w K mg base CX0 1 T.a_is_name T.fd_is_name ["word"] spIsName := by
  refine T.F_is_name.ok sc_is_name (fun vs H Q E h => ?_) (fun cdv A outer s H vs Q E hr h => ?_)
  · obtain ⟨x, rfl, _⟩ := h
    rfl
  obtain ⟨x, rfl, hx, q⟩ := h
  refine ⟨_, (pss_cons (ps_if (PW.pt (pw_or (pt_not (pt_chain op_le op_le pe_int (pe_callB call_len_str (by rfl) T.z_len (by decide +kernel) (pa_cons (pv 0) pa_nil)) (pe_glob (v := .int 12) rfl T.g_LONGEST_NAME.choose_spec ⟨_, rfl⟩))) (pw_or1 (pt_cmpR op_in_seq (pv 0) (pe_glob (v := .ref T.a_KEY_WORDS) rfl T.g_KEY_WORDS rfl) rfl))))
      (pss_one (ps_ret pe_bl))
      pss_nil)
    (pss_one (ps_ret (pe_and (pe_cmpR op_in_sign (pe_ix ix_str (pv 0) pe_int (fun _ _ => rfl)) (pe_glob (v := .str "abcdefghijklmnopqrstuvwxyz") rfl T.g_LETTERS.choose_spec ⟨_, rfl⟩) rfl) (pe_one (pe_callB (cr_all rfl) (by rfl) T.z_all (by decide +kernel) (pa_cons (pe_lc (own := [("sign", 1)]) (g := gName 1) (tt := tYes) rfl sc_is_name.nd (pi_str (pv 0)) (blkOk_by (own := [("sign", 1)]) (N := ["word", "sign"]) (sc := defScope s_is_name) (by decide +kernel)) (fun _ _ _ _ _ => pg_name (i := 1) sc_is_name.nd rfl (Or.inl rfl)) (fun _ _ _ _ _ => pts_nil) (fun _ _ _ _ _ => (pe_or (pe_cmpR op_in_sign (pv 1) (pe_glob (v := .str "abcdefghijklmnopqrstuvwxyz") rfl T.g_LETTERS.choose_spec ⟨_, rfl⟩) rfl) (pe_one (pe_cmpR op_in_sign (pv 1) (pe_glob (v := .str "0123456789") rfl T.g_DIGITS.choose_spec ⟨_, rfl⟩) rfl))))) pa_nil))))))), ?_⟩
  have no : isName x = false → Q (.bl false) H := fun e => by rw [← e]; exact q H (Same.refl _)
  have hl := len_signs x
  refine ⟨_, rfl, x, rfl, Nat.le_trans hx a_le, _, _, rfl, rfl, _, rfl, ?_⟩
  refine ite2 (fun c1 => ?_) (fun c1 => ?_)
  rotate_left
  · refine ⟨_, rfl, ?_⟩
    refine no ?_
    have := of_decide_eq_false (Bool.eq_false_iff.mpr c1)
    unfold isName
    rw [show decide (1 ≤ x.length ∧ x.length ≤ 12) = false from decide_eq_false (by omega)]
    rfl
  refine ⟨_, _, rfl, rfl, _, rfl, ?_⟩
  have c1' := of_decide_eq_true c1
  refine ite2 (fun c2 => ?_) (fun c2 => ?_)
  · refine no ?_
    have : ¬ x.length ≤ 12 := by
      intro z
      rw [show decide ((x.length : Int) ≤ 12) = true from decide_eq_true (by omega)] at c2
      cases c2
    unfold isName
    rw [show decide (1 ≤ x.length ∧ x.length ≤ 12) = false from decide_eq_false (by omega)]
    rfl
  have c2' : x.length ≤ 12 := by
    cases e : decide ((x.length : Int) ≤ 12) with
    | true => have := of_decide_eq_true e; omega
    | false => rw [e] at c2; exact absurd rfl c2
  refine ⟨_, rfl, _, _, rfl, .inr (T.q_KEY_WORDS H), rfl, flat_strs _, _, rfl, ?_⟩
  rw [if_neg Bool.false_ne_true, inV_strs]
  refine ite2 (fun c3 => ?_) (fun c3 => ?_)
  · refine no ?_
    unfold isName
    rw [show decide (x ∈ keys) = true from c3]
    simp
  have c3' : decide (x ∈ keys) = false := Bool.eq_false_iff.mpr c3
  obtain ⟨c, cs, ec⟩ : ∃ c cs, signs x = c :: cs := by
    cases e : signs x with
    | nil => rw [e] at hl; simp at hl; omega
    | cons c cs => exact ⟨c, cs, rfl⟩
  have bas : isName x = (letB c && (signs x).all fun c => letB c || digB c) := by
    unfold isName
    rw [decide_eq_true (show 1 ≤ x.length ∧ x.length ≤ 12 from ⟨by omega, c2'⟩), c3', ec]
    rfl
  have e0 : atI (signs x) 0 = some c := atI_nat (j := 0) (show (signs x)[0]? = some c by rw [ec] <;> rfl)
  refine ⟨_, rfl, x, 0, c, rfl, rfl, Nat.le_trans hx a_le, e0, _, _, rfl, rfl, ?_⟩
  show ∃ k, V.bl (letB c) = .bl k ∧ _
  refine ⟨_, rfl, ?_⟩
  refine ite2 (fun c4 => ?_) (fun c4 => ?_)
  rotate_left
  · refine no ?_
    rw [bas, Bool.eq_false_iff.mpr c4]
    rfl
  refine ⟨_, rfl, _, rfl, fun D hD => ?_⟩
  refine lc_it walk_str (fun i H' => Same H H' ∧ H' D = some (.lst (((signs x).take i).map fun c => V.bl (letB c || digB c)))) ⟨Gm.same_new hD _, upd_same⟩ (fun _ _ _ _ => trivial) ?_ ?_
  · rintro i v H1 H2 hi ⟨m, e1⟩ ⟨rfl, c', e2, rfl⟩
    refine ⟨rfl, ?_⟩
    have e2' : (signs x)[i]? = some c' := by unfold signs; rw [Array.getElem?_toList]; exact e2
    have fin : ∀ b, (letB c' || digB c') = b → ∃ acc, H2 D = some (.lst acc) ∧ acc.length < sizeLine ∧ Same H (upd H2 D (.lst (acc ++ [V.bl b]))) ∧ upd H2 D (.lst (acc ++ [V.bl b])) D = some (.lst (((signs x).take (i + 1)).map fun c => V.bl (letB c || digB c))) := by
      intro b eb
      refine ⟨_, e1, ?_, fun a o z => ?_, ?_⟩
      · rw [List.length_map, List.length_take]
        exact Nat.lt_of_le_of_lt (Nat.min_le_right _ _) (Nat.lt_of_le_of_lt (show (signs x).length ≤ 12 by omega) (by decide))
      · rw [upd_ne (ne_of_none z hD)]
        exact m _ _ z
      · rw [upd_same, take_more e2', List.map_append, ← eb]
        rfl
    refine ⟨_, rfl, c', _, rfl, rfl, ?_⟩
    show ∃ k, V.bl (letB c') = .bl k ∧ _
    refine ⟨_, rfl, ite2 (fun d => ?_) (fun d => ?_)⟩
    · exact fin true (by rw [d]; rfl)
    · refine ⟨_, rfl, c', _, rfl, rfl, ?_⟩
      show _
      exact fin (digB c') (by rw [Bool.eq_false_iff.mpr d]; rfl)
  · rintro H1 ⟨m, e1⟩
    have e1' : H1 D = some (.lst (((signs x).map fun c => letB c || digB c).map V.bl)) := by
      rw [e1, List.map_map]
      have : (signs x).take x.cps.size = signs x := by
        rw [show x.cps.size = (signs x).length from (Array.length_toList).symm, List.take_length]
      rw [this]
      rfl
    refine ⟨D, _, rfl, SqL.of e1', ?_⟩
    rw [all_map]
    have := q H1 m
    rw [bas, c4, Bool.true_and] at this
    exact this
theorem ok_is_number (T : Txt K mg file) : FnOk P w K mg base CX0 1 T.a_is_number T.fd_is_number ["word"] spIsNum := by
  refine T.F_is_number.ok sc_is_number (fun vs H Q E h => ?_) (fun cdv A outer s H vs Q E hr h => ?_)
  · obtain ⟨x, rfl, _⟩ := h
    rfl
  obtain ⟨x, rfl, hx, q⟩ := h
  refine ⟨_, (pss_cons (ps_if (PW.pt (pw_or (pt_not (pt_chain op_le op_le pe_int (pe_callB call_len_str (by rfl) T.z_len (by decide +kernel) (pa_cons (pv 0) pa_nil)) (pe_glob (v := .int 5) rfl T.g_LONGEST_NUMBER.choose_spec ⟨_, rfl⟩))) (pw_or1 (pt_not (pt_val (pe_callB (cr_all rfl) (by rfl) T.z_all (by decide +kernel) (pa_cons (pe_lc (own := [("sign", 1)]) (g := gName 1) (tt := tYes) rfl sc_is_number.nd (pi_str (pv 0)) (blkOk_by (own := [("sign", 1)]) (N := ["word", "sign"]) (sc := defScope s_is_number) (by decide +kernel)) (fun _ _ _ _ _ => pg_name (i := 1) sc_is_number.nd rfl (Or.inl rfl)) (fun _ _ _ _ _ => pts_nil) (fun _ _ _ _ _ => (pe_cmpR op_in_sign (pv 1) (pe_glob (v := .str "0123456789") rfl T.g_DIGITS.choose_spec ⟨_, rfl⟩) rfl))) pa_nil)))))))
      (pss_one (ps_ret pe_bl))
      pss_nil)
    (pss_cons (ps_if (pt_cmpR op_eq (pe_ix ix_str (pv 0) pe_int (fun _ _ => rfl)) pe_str (nomark _))
      (pss_one (ps_ret (pe_cmpR op_eq (pv 0) pe_str (nomark _))))
      pss_nil)
    (pss_one (ps_ret (pe_cmpR op_le (pe_callTy call_int_str (by rfl) T.z_int (by decide +kernel) (pa_cons (pv 0) pa_nil)) (pe_glob (v := .int 65535) rfl T.g_GREATEST_NUMBER.choose_spec ⟨_, rfl⟩) (nomark _)))))), ?_⟩
  have hl := len_signs x
  have no : isNum x = false → ∀ H', Same H H' → Q (.bl false) H' := fun e H' m => by rw [← e]; exact q H' m
  refine ⟨_, rfl, x, rfl, Nat.le_trans hx a_le, _, _, rfl, rfl, _, rfl, ?_⟩
  refine ite2 (fun c1 => ?_) (fun c1 => ?_)
  rotate_left
  · refine ⟨_, rfl, ?_⟩
    refine no ?_ H (Same.refl _)
    have := of_decide_eq_false (Bool.eq_false_iff.mpr c1)
    unfold isNum
    rw [show decide (1 ≤ x.length ∧ x.length ≤ 5) = false from decide_eq_false (by omega)]
    rfl
  refine ⟨_, _, rfl, rfl, _, rfl, ?_⟩
  have c1' := of_decide_eq_true c1
  refine ite2 (fun c2 => ?_) (fun c2 => ?_)
  · refine no ?_ H (Same.refl _)
    have : ¬ x.length ≤ 5 := by
      intro z
      rw [show decide ((x.length : Int) ≤ 5) = true from decide_eq_true (by omega)] at c2
      cases c2
    unfold isNum
    rw [show decide (1 ≤ x.length ∧ x.length ≤ 5) = false from decide_eq_false (by omega)]
    rfl
  have c2' : x.length ≤ 5 := by
    cases e : decide ((x.length : Int) ≤ 5) with
    | true => have := of_decide_eq_true e; omega
    | false => rw [e] at c2; exact absurd rfl c2
  obtain ⟨c, cs, ec⟩ : ∃ c cs, signs x = c :: cs := by
    cases e : signs x with
    | nil => rw [e] at hl; simp at hl; omega
    | cons c cs => exact ⟨c, cs, rfl⟩
  have bas : isNum x = ((signs x).all digB && if c = 48 then decide (x = "0") else decide (numW x ≤ 65535)) := by
    unfold isNum
    rw [decide_eq_true (show 1 ≤ x.length ∧ x.length ≤ 5 from ⟨by omega, c2'⟩), ec]
    rfl
  have e0 : atI (signs x) 0 = some c := atI_nat (j := 0) (show (signs x)[0]? = some c by rw [ec] <;> rfl)
  refine ⟨_, rfl, _, rfl, fun D hD => ?_⟩
  refine lc_it walk_str (fun i H' => Same H H' ∧ H' D = some (.lst (((signs x).take i).map fun c => V.bl (digB c)))) ⟨Gm.same_new hD _, upd_same⟩ (fun _ _ _ _ => trivial) ?_ ?_
  · rintro i v H1 H2 hi ⟨m, e1⟩ ⟨rfl, c', e2, rfl⟩
    refine ⟨rfl, ?_⟩
    have e2' : (signs x)[i]? = some c' := by unfold signs; rw [Array.getElem?_toList]; exact e2
    refine ⟨_, rfl, c', _, rfl, rfl, _, e1, ?_, fun a o z => ?_, ?_⟩
    · rw [List.length_map, List.length_take]
      exact Nat.lt_of_le_of_lt (Nat.min_le_right _ _) (Nat.lt_of_le_of_lt (show (signs x).length ≤ 12 by omega) (by decide))
    · rw [upd_ne (ne_of_none z hD)]
      exact m _ _ z
    · rw [upd_same, take_more e2', List.map_append]
      rfl
  · rintro H1 ⟨m, e1⟩
    have e1' : H1 D = some (.lst (((signs x).map digB).map V.bl)) := by
      rw [e1, List.map_map]
      have : (signs x).take x.cps.size = signs x := by
        rw [show x.cps.size = (signs x).length from (Array.length_toList).symm, List.take_length]
      rw [this]
      rfl
    refine ⟨D, _, rfl, SqL.of e1', ?_⟩
    rw [all_map]
    refine ⟨_, rfl, ?_⟩
    refine ite2 (fun c3 => ?_) (fun c3 => ?_)
    · refine no ?_ H1 m
      have : (signs x).all digB = false := by
        cases e : (signs x).all digB with
        | false => rfl
        | true => rw [e] at c3; cases c3
      rw [bas, this]
      rfl
    have c3' : (signs x).all digB = true := by
      cases e : (signs x).all digB with
      | true => rfl
      | false => rw [e] at c3; exact absurd rfl c3
    have s0 : ("0" : Str) = ⟨#[48]⟩ := by decide +kernel
    have d0 : decide (V.str (⟨#[c]⟩ : Str) = V.str ("0" : Str)) = decide (c = 48) := by
      rw [s0]
      refine decide_eq_decide.mpr ⟨fun z => ?_, fun z => by rw [z]⟩
      have z1 := V.str.inj z
      have z2 : (#[c] : Array Nat) = #[48] := congrArg Str.cps z1
      simpa using z2
    have qn := q H1 m
    rw [bas, c3', Bool.true_and] at qn
    refine ⟨_, rfl, x, 0, c, rfl, rfl, Nat.le_trans hx a_le, e0, ?_⟩
    refine ⟨rfl, _, rfl, ?_⟩
    rw [d0]
    refine ite2 (fun c4 => ?_) (fun c4 => ?_)
    · rw [if_pos (of_decide_eq_true c4)] at qn
      refine ⟨_, rfl, rfl, ?_⟩
      have : decide (V.str x = V.str ("0" : Str)) = decide (x = ("0" : Str)) := decide_eq_decide.mpr ⟨V.str.inj, congrArg V.str⟩
      rw [this]
      exact qn
    · rw [if_neg (of_decide_eq_false (Bool.eq_false_iff.mpr c4))] at qn
      refine ⟨_, rfl, x, _, rfl, num_text c3' (by omega) c2', by omega, _, _, rfl, rfl, ?_⟩
      have : decide (((numW x : Nat) : Int) ≤ 65535) = decide (numW x ≤ 65535) := decide_eq_decide.mpr ⟨by omega, by omega⟩
      show Q (.bl (decide (((numW x : Nat) : Int) ≤ 65535))) H1
      rw [this]
      exact qn
/-! ### the object that takes words -/
theorem ok_ended (T : Txt K mg file) : FnOk P w K mg base CX0 1 T.a_Words_ended T.fd_Words_ended ["self"] (spEnded T.C_Words) := by
  refine T.F_Words_ended.ok sc_Words_ended (fun vs H Q E h => ?_) (fun cdv A outer s H vs Q E hr h => ?_)
  · obtain ⟨p, l, ws, i, rfl, _⟩ := h
    rfl
  obtain ⟨p, l, ws, i, rfl, W, q⟩ := h
  refine ⟨_, (pss_one (ps_ret (pe_cmpR op_eq (pe_fld (pv 0) rfl) (pe_callB call_len_seq (by rfl) T.z_len (by decide +kernel) (pa_cons (pe_fld (pv 0) rfl) pa_nil)) (nomark _)))), ?_⟩
  obtain ⟨dx, fs, e1, e2, e3, e4, e5⟩ := W.ob
  refine ⟨_, rfl, p, _, _, _, _, rfl, e1, T.cl_Words, T.na_Words_at, e3, ?_⟩
  refine ⟨_, rfl, p, _, _, _, _, rfl, e1, T.cl_Words, T.na_Words_words, e2, ?_⟩
  refine ⟨l, _, rfl, .inl (SqL.of W.li), rfl, ?_⟩
  have : decide (V.int (i : Int) = V.int ((ws.map V.str).length : Nat)) = decide (i = ws.length) := by
    rw [List.length_map]
    exact decide_eq_decide.mpr ⟨fun z => Int.ofNat.inj (V.int.inj z), fun z => by rw [z]⟩
  show Q (.bl _) H
  rw [this]
  exact q
theorem ok_ahead (T : Txt K mg file) : FnOk P w K mg base CX0 2 T.a_Words_ahead T.fd_Words_ahead ["self"] (spAhead T.C_Words) := by
  have G_Words_ended : FnOk P w K mg base CX0 1 T.a_Words_ended T.fd_Words_ended ["self"] (spEnded T.C_Words) := ok_ended T
  refine T.F_Words_ahead.ok sc_Words_ahead (fun vs H Q E h => ?_) (fun cdv A outer s H vs Q E hr h => ?_)
  · obtain ⟨p, l, ws, i, rfl, _⟩ := h
    rfl
  obtain ⟨p, l, ws, i, rfl, W, q⟩ := h
  refine ⟨_, (pss_cons (ps_if (pt_val (pe_meth0 (pv 0) T.cl_Words T.m_Words_ended G_Words_ended (hr.mono (by decide)) T.b_Words_ended .nil pass0))
      (pss_one (ps_ret pe_str))
      pss_nil)
    (pss_one (ps_ret (pe_ix ix_list (pe_fld (pv 0) rfl) (pe_fld (pv 0) rfl) (fun _ _ => rfl))))), ?_⟩
  obtain ⟨dx, fs, e1, e2, e3, e4, e5⟩ := W.ob
  refine ⟨_, rfl, p, _, _, rfl, e1, e4 _ (by decide) (by decide), p, l, ws, i, rfl, W, _, rfl, ?_⟩
  refine ite2 (fun c => ?_) (fun c => ?_)
  · have c' := of_decide_eq_true c
    have : wd ws i = Str.empty := by unfold wd; rw [c', List.getD_eq_getElem?_getD, List.getElem?_eq_none (Nat.le_refl _)]; rfl
    rw [this] at q
    exact q
  · have c' : i ≠ ws.length := of_decide_eq_false (Bool.eq_false_iff.mpr c)
    have hi : i < ws.length := Nat.lt_of_le_of_ne W.le c'
    have ew : ws[i]? = some (wd ws i) := by unfold wd; rw [List.getD_eq_getElem?_getD, List.getElem?_eq_getElem hi]; rfl
    refine ⟨_, rfl, p, _, _, _, _, rfl, e1, T.cl_Words, T.na_Words_words, e2, ?_⟩
    refine ⟨_, rfl, p, _, _, _, _, rfl, e1, T.cl_Words, T.na_Words_at, e3, ?_⟩
    exact ⟨l, _, _, _, rfl, rfl, SqL.of W.li, atI_nat (by rw [List.getElem?_map, ew]; rfl), q⟩
theorem ok_refuse (hP : PrF P file) (T : Txt K mg file) : FnOk P w K mg base (L2.CX P w) 4 T.a_Words_refuse T.fd_Words_refuse ["self"] (spRefuse T.C_Words T.C_BadText) := by
  refine T.F_Words_refuse.okX sc_Words_refuse (fun vs H Q E h => ?_) (fun cdv A outer s H vs Q E hr h => ?_)
  · obtain ⟨p, l, ws, i, rfl, _⟩ := h
    rfl
  obtain ⟨p, l, ws, i, rfl, W, q⟩ := h
  refine ⟨_, (pss_one (ps_raise rfl (takes_of rfl rfl rfl rfl) (pmk_err T.E_BadText (err_BadText (k := 0) T.E_BadText hP) T.b_BadText_init (hr.mono (by decide)) rfl T.g_BadText (pa_cons (pe_fld (pv 0) rfl) pa_nil)))), ?_⟩
  obtain ⟨dx, fs, e1, e2, e3, e4, e5⟩ := W.ob
  refine ⟨_, rfl, p, _, _, _, _, rfl, e1, T.cl_Words, T.na_Words_at, e3, _, rfl, ⟨i, rfl, ?_⟩, fun d hd => ?_⟩
  · have := W.le
    have := W.sz
    omega
  · exact q d _ (fun b o e _ => by rw [upd_ne (ne_of_none e hd)]; exact e) upd_same
theorem ok_take (T : Txt K mg file) : FnOk P w K mg base CX0 3 T.a_Words_take T.fd_Words_take ["self"] (spTake T.C_Words) := by
  have G_Words_ahead : FnOk P w K mg base CX0 2 T.a_Words_ahead T.fd_Words_ahead ["self"] (spAhead T.C_Words) := ok_ahead T
  refine T.F_Words_take.ok sc_Words_take (fun vs H Q E h => ?_) (fun cdv A outer s H vs Q E hr h => ?_)
  · obtain ⟨p, l, ws, i, rfl, _⟩ := h
    rfl
  obtain ⟨p, l, ws, i, rfl, W, hi, q⟩ := h
  refine ⟨_, (pss_cons (ps_set (i := 1) sc_Words_take.nd rfl (Or.inl rfl) (pe_meth0 (pv 0) T.cl_Words T.m_Words_ahead G_Words_ahead (hr.mono (by decide)) T.b_Words_ahead .nil pass0))
    (pss_cons (ps_fldaug (pv 0) pe_int in_add)
    (pss_one (ps_ret (pv 1))))), ?_⟩
  obtain ⟨dx, fs, e1, e2, e3, e4, e5⟩ := W.ob
  refine ⟨_, rfl, p, _, _, rfl, e1, e4 _ (by decide) (by decide), p, l, ws, i, rfl, W, ?_⟩
  refine ⟨_, rfl, p, _, _, _, _, rfl, e1, T.cl_Words, T.na_Words_at, e3, _, _, rfl, rfl, dx, fs, e1, by omega, _, rfl, ?_⟩
  refine q _ But.upd ⟨⟨dx, _, upd_same, ?_, ?_, fun m h1 h2 => ?_, ?_⟩, ?_, by omega, W.sz, W.wl⟩
  · rw [lookup_putF, if_neg (by decide +kernel)]
    exact e2
  · rw [lookup_putF, if_pos rfl]
    exact congrArg some (congrArg V.int (by omega))
  · rw [lookup_putF, if_neg h2]
    exact e4 m h1 h2
  · rw [putF_len e3]
    exact e5
  · rw [upd_ne W.ne]
    exact W.li
theorem ok_one_of (hP : PrF P file) (T : Txt K mg file) : FnOk P w K mg base (L2.CX P w) 5 T.a_Words_one_of T.fd_Words_one_of ["self", "choices"] (spOneOf T.C_Words T.C_BadText K) := by
  have G_Words_ahead : FnOk P w K mg base CX0 2 T.a_Words_ahead T.fd_Words_ahead ["self"] (spAhead T.C_Words) := ok_ahead T
  have G_Words_take : FnOk P w K mg base CX0 3 T.a_Words_take T.fd_Words_take ["self"] (spTake T.C_Words) := ok_take T
  have G_Words_refuse : FnOk P w K mg base (L2.CX P w) 4 T.a_Words_refuse T.fd_Words_refuse ["self"] (spRefuse T.C_Words T.C_BadText) := ok_refuse hP T
  refine T.F_Words_one_of.okX sc_Words_one_of (fun vs H Q E h => ?_) (fun cdv A outer s H vs Q E hr h => ?_)
  · obtain ⟨p, l, ws, i, v, cs, rfl, _⟩ := h
    rfl
  obtain ⟨p, l, ws, i, v, cs, rfl, W, am, ne, hh⟩ := h
  refine ⟨_, (pss_cons (ps_if (pt_cmpR (op_notU (hu_of hr)) (pe_meth0 (pv 0) T.cl_Words T.m_Words_ahead G_Words_ahead (hr.mono (by decide)) T.b_Words_ahead .nil pass0) (pv 1) rfl)
      (pss_one (ps_expr (pe_meth0 (pv 0) T.cl_Words T.m_Words_refuse G_Words_refuse (hr.mono (by decide)) T.b_Words_refuse .nil (passes_call (takes_of rfl rfl rfl rfl) (fun _ _ _ _ z => z)))))
      pss_nil)
    (pss_one (ps_ret (pe_meth0 (pv 0) T.cl_Words T.m_Words_take G_Words_take (hr.mono (by decide)) T.b_Words_take .nil pass0)))), ?_⟩
  have mt : ∀ m : Str, m ≠ "words" → m ≠ "at" → ∃ dx fs, H p = some (.ins T.C_Words dx fs) ∧ fs.lookup m = none := fun m h1 h2 => W.nomt h1 h2
  obtain ⟨dx, fs, e1, e2⟩ := mt "ahead" (by decide) (by decide)
  obtain ⟨dx3, fs3, e5, e6⟩ := mt "refuse" (by decide) (by decide)
  obtain ⟨dx4, fs4, e7, e8⟩ := mt "take" (by decide) (by decide)
  refine ⟨_, rfl, p, dx, fs, rfl, e1, e2, p, l, ws, i, rfl, W, _, rfl, am.notU ?_⟩
  refine ⟨_, rfl, ?_⟩
  unfold Tk1 at hh
  refine ite2 (fun c => ?_) (fun c => ?_)
  · have c' : decide (wd ws i ∈ cs) = false := by
      cases z : decide (wd ws i ∈ cs) with
      | false => rfl
      | true => rw [z] at c; cases c
    rw [c', if_neg Bool.false_ne_true] at hh
    exact ⟨_, rfl, p, dx3, fs3, rfl, e5, e6, p, l, ws, i, rfl, W, hh⟩
  · have c' : decide (wd ws i ∈ cs) = true := by
      cases z : decide (wd ws i ∈ cs) with
      | true => rfl
      | false => rw [z] at c; exact absurd rfl c
    rw [c', if_pos rfl] at hh
    have hi : i < ws.length := W.lt_of fun z => ne (by rw [← z]; exact of_decide_eq_true c')
    exact ⟨_, rfl, p, dx4, fs4, rfl, e7, e8, p, l, ws, i, rfl, W, hi, hh⟩
theorem ok_name (hP : PrF P file) (T : Txt K mg file) : FnOk P w K mg base (L2.CX P w) 5 T.a_Words_name T.fd_Words_name ["self", "taken"] (spName T.C_Words T.C_BadText K) := by
  have G_Words_ahead : FnOk P w K mg base CX0 2 T.a_Words_ahead T.fd_Words_ahead ["self"] (spAhead T.C_Words) := ok_ahead T
  have G_Words_take : FnOk P w K mg base CX0 3 T.a_Words_take T.fd_Words_take ["self"] (spTake T.C_Words) := ok_take T
  have G_Words_refuse : FnOk P w K mg base (L2.CX P w) 4 T.a_Words_refuse T.fd_Words_refuse ["self"] (spRefuse T.C_Words T.C_BadText) := ok_refuse hP T
  have G_is_name : FnOk P w K mg base CX0 1 T.a_is_name T.fd_is_name ["word"] spIsName := ok_is_name T
  refine T.F_Words_name.ok sc_Words_name (fun vs H Q E h => ?_) (fun cdv A outer s H vs Q E hr h => ?_)
  · obtain ⟨p, l, ws, i, a, cs, rfl, _⟩ := h
    rfl
  obtain ⟨p, l, ws, i, a, cs, rfl, W, am, hh⟩ := h
  refine ⟨_, (pss_cons (ps_if (PW.pt (pw_or (pt_not (pt_val (pe_call G_is_name (hr.mono (by decide)) rfl T.g_is_name T.k_is_name T.b_is_name .nil pass0 (pa_cons (pe_meth0 (pv 0) T.cl_Words T.m_Words_ahead G_Words_ahead (hr.mono (by decide)) T.b_Words_ahead .nil pass0) pa_nil)))) (pw_or1 (pt_cmpR op_in_seq (pe_meth0 (pv 0) T.cl_Words T.m_Words_ahead G_Words_ahead (hr.mono (by decide)) T.b_Words_ahead .nil pass0) (pv 1) rfl))))
      (pss_one (ps_expr (pe_meth0 (pv 0) T.cl_Words T.m_Words_refuse G_Words_refuse (hr.mono (by decide)) T.b_Words_refuse .nil (passes_call (takes_of rfl rfl rfl rfl) (fun _ _ _ _ z => z)))))
      pss_nil)
    (pss_one (ps_ret (pe_meth0 (pv 0) T.cl_Words T.m_Words_take G_Words_take (hr.mono (by decide)) T.b_Words_take .nil pass0)))), ?_⟩
  obtain ⟨dx, fs, e1, e2⟩ := W.nomt (m := "ahead")
  refine ⟨_, rfl, p, dx, fs, rfl, e1, e2, p, l, ws, i, rfl, W, _, rfl, wd_len W, fun H1 m1 => ⟨_, rfl, ?_⟩⟩
  have W1 := W.same m1
  have am1 : SqL K H1 a (cs.map V.str) ∨ SqT K H1 a (cs.map V.str) := am.imp (fun z => m1.seq z) fun z => sqT_mono m1 z
  obtain ⟨dx2, fs2, e3, e4⟩ := W1.nomt (m := "ahead")
  obtain ⟨dx3, fs3, e5, e6⟩ := W1.nomt (m := "refuse")
  obtain ⟨dx4, fs4, e7, e8⟩ := W1.nomt (m := "take")
  unfold Tk1 at hh
  refine ite2 (fun c => ?_) (fun c => ?_)
  · have c' : isName (wd ws i) = false := by
      cases z : isName (wd ws i) with
      | false => rfl
      | true => rw [z] at c; cases c
    rw [c', Bool.false_and, if_neg Bool.false_ne_true] at hh
    refine ite2 (fun _ => ?_) (fun z => absurd rfl z)
    exact ⟨_, rfl, p, dx3, fs3, rfl, e5, e6, p, l, ws, i, rfl, W1, hh.later (But.same m1)⟩
  have c' : isName (wd ws i) = true := by
    cases z : isName (wd ws i) with
    | true => rfl
    | false => rw [z] at c; exact absurd rfl c
  rw [c', Bool.true_and] at hh
  refine ⟨_, rfl, p, dx2, fs2, rfl, e3, e4, p, l, ws, i, rfl, W1, _, rfl, a, _, rfl, am1, rfl, flat_strs _, _, rfl, ?_⟩
  rw [if_neg Bool.false_ne_true, inV_strs]
  refine ite2 (fun c2 => ?_) (fun c2 => ?_)
  · rw [c2] at hh
    exact ⟨_, rfl, p, dx3, fs3, rfl, e5, e6, p, l, ws, i, rfl, W1, hh.later (But.same m1)⟩
  · have c2' : decide (wd ws i ∈ cs) = false := Bool.eq_false_iff.mpr c2
    rw [c2', if_pos (by rfl)] at hh
    have hi : i < ws.length := W.lt_of fun z => by rw [z] at c'; exact absurd c' (by decide +kernel)
    exact ⟨_, rfl, p, dx4, fs4, rfl, e7, e8, p, l, ws, i, rfl, W1, hi, fun H' b W' => hh H' ((But.same m1).trans b) W'⟩
theorem ok_number (hP : PrF P file) (T : Txt K mg file) : FnOk P w K mg base (L2.CX P w) 5 T.a_Words_number T.fd_Words_number ["self", "least", "greatest"] (spNumber T.C_Words T.C_BadText) := by
  have G_Words_ahead : FnOk P w K mg base CX0 2 T.a_Words_ahead T.fd_Words_ahead ["self"] (spAhead T.C_Words) := ok_ahead T
  have G_Words_take : FnOk P w K mg base CX0 3 T.a_Words_take T.fd_Words_take ["self"] (spTake T.C_Words) := ok_take T
  have G_Words_refuse : FnOk P w K mg base (L2.CX P w) 4 T.a_Words_refuse T.fd_Words_refuse ["self"] (spRefuse T.C_Words T.C_BadText) := ok_refuse hP T
  have G_is_number : FnOk P w K mg base CX0 1 T.a_is_number T.fd_is_number ["word"] spIsNum := ok_is_number T
  refine T.F_Words_number.okX sc_Words_number (fun vs H Q E h => ?_) (fun cdv A outer s H vs Q E hr h => ?_)
  · obtain ⟨p, l, ws, i, lo, hi, rfl, _⟩ := h
    rfl
  obtain ⟨p, l, ws, i, lo, hi, rfl, W, hh⟩ := h
  refine ⟨_, (pss_cons (ps_if (PW.pt (pw_or (pt_not (pt_val (pe_call G_is_number (hr.mono (by decide)) rfl T.g_is_number T.k_is_number T.b_is_number .nil pass0 (pa_cons (pe_meth0 (pv 0) T.cl_Words T.m_Words_ahead G_Words_ahead (hr.mono (by decide)) T.b_Words_ahead .nil pass0) pa_nil)))) (pw_or1 (pt_not (pt_chain op_le op_le (pv 1) (pe_callTy call_int_str (by rfl) T.z_int (by decide +kernel) (pa_cons (pe_meth0 (pv 0) T.cl_Words T.m_Words_ahead G_Words_ahead (hr.mono (by decide)) T.b_Words_ahead .nil pass0) pa_nil)) (pv 2))))))
      (pss_one (ps_expr (pe_meth0 (pv 0) T.cl_Words T.m_Words_refuse G_Words_refuse (hr.mono (by decide)) T.b_Words_refuse .nil (passes_call (takes_of rfl rfl rfl rfl) (fun _ _ _ _ z => z)))))
      pss_nil)
    (pss_one (ps_ret (pe_callTy call_int_str (by rfl) T.z_int (by decide +kernel) (pa_cons (pe_meth0 (pv 0) T.cl_Words T.m_Words_take G_Words_take (hr.mono (by decide)) T.b_Words_take .nil pass0) pa_nil))))), ?_⟩
  obtain ⟨dx, fs, e1, e2⟩ := W.nomt (m := "ahead")
  refine ⟨_, rfl, p, dx, fs, rfl, e1, e2, p, l, ws, i, rfl, W, _, rfl, wd_len W, fun H1 m1 => ⟨_, rfl, ?_⟩⟩
  have W1 := W.same m1
  obtain ⟨dx2, fs2, e3, e4⟩ := W1.nomt (m := "ahead")
  obtain ⟨dx3, fs3, e5, e6⟩ := W1.nomt (m := "refuse")
  obtain ⟨dx4, fs4, e7, e8⟩ := W1.nomt (m := "take")
  unfold Tk1 at hh
  have bad : (isNum (wd ws i) && decide (lo ≤ (numW (wd ws i) : Nat) ∧ ((numW (wd ws i) : Nat) : Int) ≤ hi)) = false → Ref p T.C_BadText H1 i E := fun z => by
    rw [z, if_neg Bool.false_ne_true] at hh
    exact hh.later (But.same m1)
  refine ite2 (fun c => ?_) (fun c => ?_)
  · have c' : isNum (wd ws i) = false := by
      cases z : isNum (wd ws i) with
      | false => rfl
      | true => rw [z] at c; cases c
    refine ite2 (fun _ => ?_) (fun z => absurd rfl z)
    exact ⟨_, rfl, p, dx3, fs3, rfl, e5, e6, p, l, ws, i, rfl, W1, bad (by rw [c']; rfl)⟩
  have c' : isNum (wd ws i) = true := by
    cases z : isNum (wd ws i) with
    | true => rfl
    | false => rw [z] at c; exact absurd rfl c
  obtain ⟨t1, t2⟩ := isNum_text c'
  refine ⟨_, rfl, _, rfl, p, dx2, fs2, rfl, e3, e4, p, l, ws, i, rfl, W1, _, _, rfl, t1, t2, ?_⟩
  refine ⟨_, _, rfl, rfl, _, rfl, ?_⟩
  have hin : i < ws.length := W.lt_of fun z => by rw [z] at c'; exact absurd c' (by decide +kernel)
  refine ite2 (fun c1 => ?_) (fun c1 => ?_)
  · have c1' := of_decide_eq_true c1
    refine ⟨_, rfl, _, _, rfl, rfl, _, rfl, ?_⟩
    refine ite2 (fun c2 => ?_) (fun c2 => ?_)
    · refine ⟨_, rfl, p, dx3, fs3, rfl, e5, e6, p, l, ws, i, rfl, W1, bad ?_⟩
      have : ¬ ((numW (wd ws i) : Nat) : Int) ≤ hi := fun z => by rw [decide_eq_true z] at c2; cases c2
      rw [decide_eq_false fun z : _ ∧ _ => this z.2, Bool.and_false]
    · have c2' : ((numW (wd ws i) : Nat) : Int) ≤ hi := by
        by_cases z : ((numW (wd ws i) : Nat) : Int) ≤ hi
        · exact z
        · rw [decide_eq_false z] at c2; exact absurd rfl c2
      rw [c', decide_eq_true ⟨c1', c2'⟩, if_pos (by rfl)] at hh
      exact ⟨_, rfl, p, dx4, fs4, rfl, e7, e8, p, l, ws, i, rfl, W1, hin, fun H' b W' => ⟨_, _, rfl, t1, t2, hh H' ((But.same m1).trans b) W'⟩⟩
  · refine ⟨_, rfl, ?_⟩
    refine ite2 (fun _ => ?_) (fun z => absurd rfl z)
    refine ⟨_, rfl, p, dx3, fs3, rfl, e5, e6, p, l, ws, i, rfl, W1, bad ?_⟩
    have : ¬ lo ≤ (numW (wd ws i) : Nat) := of_decide_eq_false (Bool.eq_false_iff.mpr c1)
    rw [decide_eq_false fun z : _ ∧ _ => this z.1, Bool.and_false]
theorem ok_finish (hP : PrF P file) (T : Txt K mg file) : FnOk P w K mg base (L2.CX P w) 5 T.a_Words_finish T.fd_Words_finish ["self"] (spFinish T.C_Words T.C_BadText) := by
  have G_Words_ended : FnOk P w K mg base CX0 1 T.a_Words_ended T.fd_Words_ended ["self"] (spEnded T.C_Words) := ok_ended T
  have G_Words_refuse : FnOk P w K mg base (L2.CX P w) 4 T.a_Words_refuse T.fd_Words_refuse ["self"] (spRefuse T.C_Words T.C_BadText) := ok_refuse hP T
  refine T.F_Words_finish.okX sc_Words_finish (fun vs H Q E h => ?_) (fun cdv A outer s H vs Q E hr h => ?_)
  · obtain ⟨p, l, ws, i, rfl, _⟩ := h
    rfl
  obtain ⟨p, l, ws, i, rfl, W, hh⟩ := h
  refine ⟨_, (pss_one (ps_if (pt_not (pt_val (pe_meth0 (pv 0) T.cl_Words T.m_Words_ended G_Words_ended (hr.mono (by decide)) T.b_Words_ended .nil pass0)))
      (pss_one (ps_expr (pe_meth0 (pv 0) T.cl_Words T.m_Words_refuse G_Words_refuse (hr.mono (by decide)) T.b_Words_refuse .nil (passes_call (takes_of rfl rfl rfl rfl) (fun _ _ _ _ z => z)))))
      pss_nil)), ?_⟩
  obtain ⟨dx, fs, e1, e2⟩ := W.nomt (m := "ended")
  obtain ⟨dx3, fs3, e5, e6⟩ := W.nomt (m := "refuse")
  refine ⟨_, rfl, p, dx, fs, rfl, e1, e2, p, l, ws, i, rfl, W, _, rfl, ?_⟩
  by_cases c : i = ws.length
  · rw [if_pos c] at hh
    rw [decide_eq_true c]
    exact hh
  · rw [if_neg c] at hh
    rw [decide_eq_false c]
    exact ⟨_, rfl, p, dx3, fs3, rfl, e5, e6, p, l, ws, i, rfl, W, hh⟩
theorem ok_Words (T : Txt K mg file) : FnOk P w K mg base CX0 2 T.a_Words_init T.fd_Words_init ["self", "text"] (spWords T.C_Words) := by
  refine T.F_Words_init.ok sc_Words_init (fun vs H Q E h => ?_) (fun cdv A outer s H vs Q E hr h => ?_)
  · obtain ⟨p, dx, x, rfl, _⟩ := h
    rfl
  obtain ⟨p, dx, x, rfl, hp, hx, hs, hw, q⟩ := h
  refine ⟨_, (pss_cons (ps_fld (pv 0) (pe_ifExp (pt_truth (pv 1) (by intro _; rfl)) (pe_split (pv 1) pe_str) (pe_lst pa_nil)) rfl)
    (pss_one (ps_fld (pv 0) pe_int rfl))), ?_⟩
  have fin : ∀ l, H l = none → Q .non (upd (upd (upd H l (.lst ((toWords x).map V.str))) p (.ins T.C_Words dx (putF "words" (.ref l) []))) p (.ins T.C_Words dx (putF "at" (.int 0) (putF "words" (.ref l) [])))) := by
    intro l hl
    have npl : p ≠ l := ne_of_none hp hl
    refine q l _ (fun b o e n => ?_) ⟨⟨dx, _, upd_same, ?_, ?_, fun m h1 h2 => ?_, (by show 2 < 900; decide)⟩, ?_, Nat.zero_le _, hs, hw⟩
    · rw [upd_ne n, upd_ne n, upd_ne (ne_of_none e hl)]
      exact e
    · rw [lookup_putF, if_neg (by decide +kernel), lookup_putF, if_pos rfl]
    · rw [lookup_putF, if_pos rfl]
      rfl
    · rw [lookup_putF, if_neg h2, lookup_putF, if_neg h1]
      rfl
    · rw [upd_ne (Ne.symm npl), upd_ne (Ne.symm npl), upd_same]
  refine ⟨_, rfl, _, ⟨Nat.le_trans hx (by decide), rfl⟩, ?_⟩
  refine ite2 (fun c => ?_) (fun c => ?_)
  · have c' : ¬ x.length = 0 := fun z => by rw [z] at c; cases c
    have e : toWords x = Txt.split x " " := if_neg c'
    rw [e] at fin
    refine ⟨_, rfl, ⟨_, rfl⟩, x, _, rfl, rfl, rfl, ?_, fun l hl => ?_⟩
    · exact Nat.le_trans (Nat.add_le_add_right hx 2) (by decide)
    · exact ⟨_, rfl, p, T.C_Words, dx, [], rfl, by rw [upd_ne (ne_of_none hp hl)]; exact hp, T.cl_Words, T.na_Words_words, (by show 0 < 1000; decide), _, rfl, p, T.C_Words, dx, _, rfl, upd_same, T.cl_Words, T.na_Words_at, (by show 1 < 1000; decide), fin l hl⟩
  · have c' : x.length = 0 := by
      by_cases z : x.length = 0
      · exact z
      · exact absurd (by simpa using z) c
    have e : toWords x = [] := if_pos c'
    rw [e] at fin
    refine ⟨(by show 0 ≤ sizeLine; decide), fun l hl => ?_⟩
    exact ⟨_, rfl, p, T.C_Words, dx, [], rfl, by rw [upd_ne (ne_of_none hp hl)]; exact hp, T.cl_Words, T.na_Words_words, (by show 0 < 1000; decide), _, rfl, p, T.C_Words, dx, _, rfl, upd_same, T.cl_Words, T.na_Words_at, (by show 1 < 1000; decide), fin l hl⟩

def MeanT (K : PySem.W.Frag) (H : Hp) (m : Addr) : Prop :=
  ∃ kvs, H m = some (.dK kvs) ∧ ∀ x : Str, (x ∈ knw → ∃ v, valV kvs (.inr x) = some v ∧ Dp K H v (TX.key x).d) ∧ (x ∉ knw → valV kvs (.inr x) = none)
theorem mean_later {C p l m : Addr} {ws : List Str} {i : Nat} {H H' : Hp} (h : WAt C H p l ws i) (b : But p H H') (M : MeanT K H m) : MeanT K H' m := by
  obtain ⟨kvs, e, f⟩ := M
  refine ⟨kvs, b _ _ e (h.other e fun _ _ _ z => by cases z), fun x => ⟨fun hx => ?_, (f x).2⟩⟩
  obtain ⟨v, e1, d⟩ := (f x).1 hx
  exact ⟨v, e1, dp_tups (h.tups b) _ _ (TX.nol _) d⟩
theorem mean_amg {m : Addr} {H : Hp} (M : MeanT K H m) : Amg K H (.ref m) knw := by
  obtain ⟨kvs, e, f⟩ := M
  refine ⟨m, rfl, .inr (.inr ⟨kvs, e, fun x => ?_⟩)⟩
  by_cases h1 : x ∈ knw
  · obtain ⟨v, e1, _⟩ := (f x).1 h1
    rw [e1]
    exact (decide_eq_true h1).symm
  · rw [(f x).2 h1]
    exact (decide_eq_false h1).symm
def TxEnd (C B : Addr) (K : PySem.W.Frag) (p l : Addr) (ws : List Str) (H : Hp) (Q : VK) (E : XK) : Except Nat (TX × Nat) → Prop
  | .ok (e, j) => ∀ v H', But p H H' → WAt C H' p l ws j → Dp K H' v e.d → Q v H'
  | .error j => Ref p B H j E
def spTx (C B : Addr) (K : PySem.W.Frag) (k : Nat) : Sp := fun vs H Q E => ∃ (p l m tb : Addr) (ws : List Str) (i : Nat), vs = [.ref p, .ref m, .ref tb, .int (8 - (k : Int))] ∧ WAt C H p l ws i ∧ MeanT K H m ∧ SqT K H tb [] ∧
  TxEnd C B K p l ws H Q E (pTx ws k i)
theorem knw_ne : Str.empty ∉ knw := by decide +kernel
theorem ok_tx_step (hP : PrF P file) (T : Txt K mg file) (k : Nat) (sp0 : Sp) (G : FnOk P w K mg base (L2.CX P w) (k + 5) T.a_read_expression T.fd_read_expression ["words", "meanings", "tables", "depth"] sp0) (hsp : ∀ j, k = j + 1 → ∀ vs H Q E, spTx T.C_Words T.C_BadText K j vs H Q E → sp0 vs H Q E) :
    FnOk P w K mg base (L2.CX P w) (k + 6) T.a_read_expression T.fd_read_expression ["words", "meanings", "tables", "depth"] (spTx T.C_Words T.C_BadText K k) := by
  have G_read_expression : FnOk P w K mg base (L2.CX P w) (k + 5) T.a_read_expression T.fd_read_expression ["words", "meanings", "tables", "depth"] sp0 := G
  have G_Words_ahead : FnOk P w K mg base CX0 2 T.a_Words_ahead T.fd_Words_ahead ["self"] (spAhead T.C_Words) := ok_ahead T
  have G_Words_take : FnOk P w K mg base CX0 3 T.a_Words_take T.fd_Words_take ["self"] (spTake T.C_Words) := ok_take T
  have G_Words_one_of : FnOk P w K mg base (L2.CX P w) 5 T.a_Words_one_of T.fd_Words_one_of ["self", "choices"] (spOneOf T.C_Words T.C_BadText K) := ok_one_of hP T
  have G_Words_number : FnOk P w K mg base (L2.CX P w) 5 T.a_Words_number T.fd_Words_number ["self", "least", "greatest"] (spNumber T.C_Words T.C_BadText) := ok_number hP T
  have G_is_number : FnOk P w K mg base CX0 1 T.a_is_number T.fd_is_number ["word"] spIsNum := ok_is_number T
  refine T.F_read_expression.ok sc_read_expression (fun vs H Q E h => ?_) (fun cdv A outer s H vs Q E hr h => ?_)
  · obtain ⟨p, l, m, tb, ws, i, rfl, _⟩ := h
    rfl
  obtain ⟨p, l, m, tb, ws, i, rfl, W, M, ht, hh⟩ := h
  refine ⟨_, (pss_cons (ps_set (i := 4) sc_read_expression.nd rfl (Or.inl rfl) (pe_meth0 (pv 0) T.cl_Words T.m_Words_ahead G_Words_ahead (hr.mono (by omega)) T.b_Words_ahead .nil pass0))
    (pss_cons (ps_if (PW.pt (pw_and (pt_cmpR op_lt (pv 3) (pe_glob (v := .int 8) rfl T.g_DEEPEST_EXPRESSION.choose_spec ⟨_, rfl⟩) (nomark _)) (pw_and1 (pt_cmpR op_in_seq (pv 4) (pe_glob (v := .ref T.a_OPERATORS) rfl T.g_OPERATORS rfl) rfl))))
      (pss_cons (ps_expr (pe_meth0 (pv 0) T.cl_Words T.m_Words_take G_Words_take (hr.mono (by omega)) T.b_Words_take .nil pass0))
    (pss_cons (ps_set (i := 5) sc_read_expression.nd rfl (Or.inl rfl) (pe_call G_read_expression (hr.mono (by omega)) rfl T.g_read_expression T.k_read_expression T.b_read_expression .nil (passes_call (takes_of rfl rfl rfl rfl) (fun _ _ _ _ z => z)) (pa_cons (pv 0) (pa_cons (pv 1) (pa_cons (pv 2) (pa_cons (pe_op op_add (pv 3) pe_int) pa_nil))))))
    (pss_one (ps_ret (pe_tup (pa_cons (pv 4) (pa_cons (pv 5) (pa_cons (pe_call G_read_expression (hr.mono (by omega)) rfl T.g_read_expression T.k_read_expression T.b_read_expression .nil (passes_call (takes_of rfl rfl rfl rfl) (fun _ _ _ _ z => z)) (pa_cons (pv 0) (pa_cons (pv 1) (pa_cons (pv 2) (pa_cons (pe_op op_add (pv 3) pe_int) pa_nil))))) pa_nil))))))))
      pss_nil)
    (pss_cons (ps_if (PW.pt (pw_and (pt_cmpR op_lt (pv 3) (pe_glob (v := .int 8) rfl T.g_DEEPEST_EXPRESSION.choose_spec ⟨_, rfl⟩) (nomark _)) (pw_and (pt_cmpR op_in_seq (pv 4) (pe_glob (v := .ref T.a_LOOKS) rfl T.g_LOOKS rfl) rfl) (pw_and1 (pt_truth (pv 2) (by intro _; rfl))))))
      (pss_cons (ps_expr (pe_meth0 (pv 0) T.cl_Words T.m_Words_take G_Words_take (hr.mono (by omega)) T.b_Words_take .nil pass0))
    (pss_cons (ps_set (i := 6) sc_read_expression.nd rfl (Or.inl rfl) (pe_meth (pv 0) T.cl_Words T.m_Words_one_of G_Words_one_of (hr.mono (by omega)) T.b_Words_one_of .nil (passes_call (takes_of rfl rfl rfl rfl) (fun _ _ _ _ z => z)) (pa_cons (pv 2) pa_nil)))
    (pss_one (ps_ret (pe_tup (pa_cons (pv 4) (pa_cons (pv 6) (pa_cons (pe_call G_read_expression (hr.mono (by omega)) rfl T.g_read_expression T.k_read_expression T.b_read_expression .nil (passes_call (takes_of rfl rfl rfl rfl) (fun _ _ _ _ z => z)) (pa_cons (pv 0) (pa_cons (pv 1) (pa_cons (pv 2) (pa_cons (pe_op op_add (pv 3) pe_int) pa_nil))))) pa_nil))))))))
      pss_nil)
    (pss_cons (ps_if (pt_val (pe_call G_is_number (hr.mono (by omega)) rfl T.g_is_number T.k_is_number T.b_is_number .nil pass0 (pa_cons (pv 4) pa_nil)))
      (pss_one (ps_ret (pe_tup (pa_cons pe_str (pa_cons (pe_meth (pv 0) T.cl_Words T.m_Words_number G_Words_number (hr.mono (by omega)) T.b_Words_number .nil (passes_call (takes_of rfl rfl rfl rfl) (fun _ _ _ _ z => z)) (pa_cons pe_int (pa_cons (pe_glob (v := .int 65535) rfl T.g_GREATEST_NUMBER.choose_spec ⟨_, rfl⟩) pa_nil))) pa_nil)))))
      pss_nil)
    (pss_one (ps_ret (pe_dget (hu_of hr) (pv 1) (pe_meth (pv 0) T.cl_Words T.m_Words_one_of G_Words_one_of (hr.mono (by omega)) T.b_Words_one_of .nil (passes_call (takes_of rfl rfl rfl rfl) (fun _ _ _ _ z => z)) (pa_cons (pv 1) pa_nil)) (fun _ _ => rfl)))))))), ?_⟩
  obtain ⟨dx, fs, e1, e2⟩ := W.nomt (m := "ahead")
  refine ⟨_, rfl, p, dx, fs, rfl, e1, e2, p, l, ws, i, rfl, W, ?_⟩
  dsimp only [gName]
  refine tail_split (pTx ws k i = tAtom ws i) (fun atom => ?_) (fun ea => ?_)
  · cases k with
    | zero =>
      have at_ := atom rfl
      refine ⟨_, rfl, _, _, rfl, rfl, _, rfl, ite2 (fun c => absurd (of_decide_eq_true c) (by omega)) (fun _ => iteF ?_)⟩
      exact ⟨_, rfl, _, _, rfl, rfl, _, rfl, ite2 (fun c => absurd (of_decide_eq_true c) (by omega)) (fun _ => iteF at_)⟩
    | succ j =>
      have hsp' := hsp j rfl
      have ed : (8 - ((j + 1 : Nat) : Int) + 1) = 8 - (j : Int) := by omega
      have dlt : decide ((8 - ((j + 1 : Nat) : Int)) < 8) = true := decide_eq_true (by omega)
      refine ⟨_, rfl, _, _, rfl, rfl, _, rfl, ite2 (fun _ => ?_) (fun c => absurd dlt c)⟩
      refine ⟨_, rfl, _, _, rfl, .inr (T.q_OPERATORS H), rfl, flat_strs _, _, rfl, ?_⟩
      rw [if_neg Bool.false_ne_true, inV_strs]
      refine ite2 (fun c1 => ?_) (fun c1 => ?_)
      · have c1' : wd ws i ∈ ops := of_decide_eq_true c1
        simp only [pTx, if_pos c1'] at hh
        have hi : i < ws.length := W.lt_of fun z => by rw [z] at c1'; exact absurd c1' (by decide +kernel)
        obtain ⟨dx2, fs2, e3, e4⟩ := W.nomt (m := "take")
        refine ⟨_, rfl, p, dx2, fs2, rfl, e3, e4, p, l, ws, i, rfl, W, hi, fun H1 b1 W1 => ?_⟩
        refine ⟨_, rfl, _, rfl, _, rfl, _, rfl, _, _, rfl, rfl, ?_⟩
        refine hsp' _ _ _ _ ⟨p, l, m, tb, ws, i + 1, congrArg (fun z : Int => [V.ref p, V.ref m, V.ref tb, V.int z]) ed, W1, mean_later W b1 M, W.sqT b1 ht, ?_⟩
        cases x1 : pTx ws j (i + 1) with
        | error y =>
          rw [x1] at hh
          exact Ref.later hh b1
        | ok r1 =>
          obtain ⟨a, j1⟩ := r1
          rw [x1] at hh
          dsimp only at hh
          intro v1 H2 b2 W2 d1
          refine ⟨_, rfl, _, rfl, _, rfl, _, rfl, _, rfl, _, rfl, _, _, rfl, rfl, ?_⟩
          have b12 := b1.trans b2
          refine hsp' _ _ _ _ ⟨p, l, m, tb, ws, j1, congrArg (fun z : Int => [V.ref p, V.ref m, V.ref tb, V.int z]) ed, W2, mean_later W b12 M, W.sqT b12 ht, ?_⟩
          cases x2 : pTx ws j j1 with
          | error y =>
            rw [x2] at hh
            exact Ref.later hh b12
          | ok r2 =>
            obtain ⟨b, j2⟩ := r2
            rw [x2] at hh
            dsimp only at hh
            intro v2 H3 b3 W3 d2
            refine ⟨by show 3 ≤ sizeLine; decide, fun q hq => ?_⟩
            refine hh _ _ ((b12.trans b3).trans (But.same (Gm.same_new hq _))) (W3.same (Gm.same_new hq _)) ?_
            unfold TX.d
            exact dp_tup hq (.cons (.str _) (.cons (dp_tups (W2.tups b3) _ _ (TX.nol _) d1) (.cons d2 .nil)))
      have c1' : ¬ wd ws i ∈ ops := of_decide_eq_false (Bool.eq_false_iff.mpr c1)
      refine ⟨_, rfl, _, _, rfl, rfl, _, rfl, ite2 (fun _ => ?_) (fun c => absurd dlt c)⟩
      refine ⟨_, rfl, _, _, rfl, .inr (T.q_LOOKS H), rfl, flat_strs _, _, rfl, ?_⟩
      rw [if_neg Bool.false_ne_true, inV_strs]
      have fin := atom (by simp only [pTx, if_neg c1'])
      refine ite2 (fun c2 => ?_) (fun c2 => iteF fin)
      refine ⟨_, rfl, _, .inr (.inl ⟨_, ht, rfl⟩), ?_⟩
      exact iteF fin
  · rw [ea] at hh
    refine ⟨_, rfl, _, rfl, wd_len W, fun H1 m1 => ⟨_, rfl, ?_⟩⟩
    have W1 := W.same m1
    unfold tAtom at hh
    refine ite2 (fun c => ?_) (fun c => ?_)
    · rw [if_pos c] at hh
      obtain ⟨dx2, fs2, e3, e4⟩ := W1.nomt (m := "number")
      refine ⟨_, rfl, p, dx2, fs2, rfl, e3, e4, p, l, ws, i, 0, 65535, rfl, W1, ?_⟩
      have cn : (isNum (wd ws i) && decide ((0 : Int) ≤ (numW (wd ws i) : Nat) ∧ ((numW (wd ws i) : Nat) : Int) ≤ 65535)) = true := by
        have := isNum_le c
        rw [c, decide_eq_true ⟨by omega, by omega⟩]
        rfl
      unfold Tk1
      rw [if_pos cn]
      intro H2 b2 W2
      refine ⟨by show 2 ≤ sizeLine; decide, fun q hq => ?_⟩
      refine hh _ _ (((But.same m1).trans b2).trans (But.same (Gm.same_new hq _))) (W2.same (Gm.same_new hq _)) ?_
      unfold TX.d
      exact dp_tup hq (.cons (.str _) (.cons (.int _) .nil))
    · rw [if_neg c] at hh
      obtain ⟨dx2, fs2, e3, e4⟩ := W1.nomt (m := "one_of")
      have M1 := mean_later W (But.same m1) M
      refine ⟨_, rfl, _, rfl, p, dx2, fs2, rfl, e3, e4, _, rfl, p, l, ws, i, _, _, rfl, W1, mean_amg M1, knw_ne, ?_⟩
      unfold Tk1
      by_cases h1 : wd ws i ∈ knw
      · rw [if_pos h1] at hh
        rw [decide_eq_true h1, if_pos rfl]
        intro H2 b2 W2
        obtain ⟨kvs, ek, f⟩ := mean_later W1 b2 M1
        obtain ⟨v, ev, dv⟩ := (f _).1 h1
        exact ⟨m, v, rfl, .inl ⟨kvs, .inr _, .inl ek, rfl, ev.symm⟩, hh _ _ ((But.same m1).trans b2) W2 dv⟩
      · rw [if_neg h1] at hh
        rw [decide_eq_false h1, if_neg Bool.false_ne_true]
        exact Ref.later hh (But.same m1)
theorem ok_tx (hP : PrF P file) (T : Txt K mg file) : ∀ k : Nat, FnOk P w K mg base (L2.CX P w) (k + 6) T.a_read_expression T.fd_read_expression ["words", "meanings", "tables", "depth"] (spTx T.C_Words T.C_BadText K k)
  | 0 => ok_tx_step hP T 0 (fun _ _ _ _ => False) ⟨fun _ _ _ _ h => h.elim, fun _ _ _ _ _ _ _ _ _ _ _ _ _ h => h.elim⟩ (fun j h => absurd h (by omega))
  | k + 1 => ok_tx_step hP T (k + 1) _ (ok_tx hP T k) (fun j h vs H Q E q => by
      obtain rfl : k = j := by omega
      exact q)
end
end Toy
set_option Elab.async false
set_option linter.all false
set_option maxRecDepth 100000
set_option maxHeartbeats 2000000
/-! Tactics as data that is compared. -/
namespace Pz
open PySem L2 Gm
mutual
def pln : PyData → Bool
  | .int _ => true
  | .str _ => true
  | .list xs => plnAll xs
  | .tuple xs => plnAll xs
  | _ => false
def plnAll : List PyData → Bool
  | [] => true
  | x :: xs => pln x && plnAll xs
end
mutual
theorem eqv_eq : ∀ d e : PyData, pln d = true → pln e = true → PyData.eqv d e = true → d = e
  | .int i, e, _, he, h => by
    cases e with
    | int j => simp [PyData.eqv] at h; rw [h]
    | str _ => simp [PyData.eqv] at h
    | list _ => simp [PyData.eqv] at h
    | tuple _ => simp [PyData.eqv] at h
    | _ => cases he
  | .str i, e, _, he, h => by
    cases e with
    | str j => simp [PyData.eqv] at h; rw [h]
    | int _ => simp [PyData.eqv] at h
    | list _ => simp [PyData.eqv] at h
    | tuple _ => simp [PyData.eqv] at h
    | _ => cases he
  | .list xs, e, hd, he, h => by
    cases e with
    | list ys => exact congrArg PyData.list (eqv_eqs xs ys hd he (by simpa [PyData.eqv] using h))
    | int _ => simp [PyData.eqv] at h
    | str _ => simp [PyData.eqv] at h
    | tuple _ => simp [PyData.eqv] at h
    | _ => cases he
  | .tuple xs, e, hd, he, h => by
    cases e with
    | tuple ys => exact congrArg PyData.tuple (eqv_eqs xs ys hd he (by simpa [PyData.eqv] using h))
    | int _ => simp [PyData.eqv] at h
    | str _ => simp [PyData.eqv] at h
    | list _ => simp [PyData.eqv] at h
    | _ => cases he
  | .none, _, hd, _, _ => by cases hd
  | .bool _, _, hd, _, _ => by cases hd
  | .dict _, _, hd, _, _ => by cases hd
theorem eqv_eqs : ∀ ds es : List PyData, plnAll ds = true → plnAll es = true → PyData.eqvAll ds es = true → ds = es
  | [], [], _, _, _ => rfl
  | [], _ :: _, _, _, h => by simp [PyData.eqvAll] at h
  | _ :: _, [], _, _, h => by simp [PyData.eqvAll] at h
  | d :: ds, e :: es, hd, he, h => by
    simp only [PyData.eqvAll, Bool.and_eq_true] at h
    have hd' : (pln d && plnAll ds) = true := hd
    have he' : (pln e && plnAll es) = true := he
    rw [Bool.and_eq_true] at hd' he'
    rw [eqv_eq d e hd'.1 he'.1 h.1, eqv_eqs ds es hd'.2 he'.2 h.2]
end
mutual
theorem eqv_rfl : ∀ d : PyData, pln d = true → PyData.eqv d d = true
  | .int i, _ => by simp [PyData.eqv]
  | .str i, _ => by simp [PyData.eqv]
  | .list xs, h => by simp only [PyData.eqv]; exact eqv_rfls xs h
  | .tuple xs, h => by simp only [PyData.eqv]; exact eqv_rfls xs h
  | .none, h => by cases h
  | .bool _, h => by cases h
  | .dict _, h => by cases h
theorem eqv_rfls : ∀ ds : List PyData, plnAll ds = true → PyData.eqvAll ds ds = true
  | [], _ => rfl
  | d :: ds, h => by
    have h' : (pln d && plnAll ds) = true := h
    rw [Bool.and_eq_true] at h'
    simp only [PyData.eqvAll, Bool.and_eq_true]
    exact ⟨eqv_rfl d h'.1, eqv_rfls ds h'.2⟩
end
theorem TX.pln : ∀ e : TX, pln e.d = true
  | .num _ => rfl
  | .key _ => rfl
  | .op o a b => by
    show (Pz.pln (.str o) && (Pz.pln a.d && (Pz.pln b.d && true))) = true
    rw [TX.pln a, TX.pln b]; rfl
theorem Ru.pln (r : Ru) : pln r.d = true := by
  have hd : Pz.pln r.deed = true := by
    unfold Ru.deed
    cases r.a with
    | none =>
      show (true && (Pz.pln r.e.d && true)) = true
      rw [TX.pln]; rfl
    | some p =>
      show (true && (true && (Pz.pln r.e.d && true))) = true
      rw [TX.pln]; rfl
  show (Pz.pln r.t.d && (Pz.pln r.deed && (Pz.pln r.k.d && true))) = true
  rw [TX.pln, hd, TX.pln]; rfl
theorem pln_rs : ∀ rs : List Ru, plnAll (rs.map Ru.d) = true
  | [] => rfl
  | r :: rs => by
    show (Pz.pln r.d && plnAll (rs.map Ru.d)) = true
    rw [Ru.pln, pln_rs rs]; rfl
theorem TX.inj : ∀ a b : TX, a.d = b.d → a = b
  | .num n, .num m, h => by unfold TX.d at h; injection h with h; injection h with _ h; injection h with h _; injection h with h; rw [h]
  | .num n, .key m, h => by unfold TX.d at h; injection h with h; injection h with _ h; cases h
  | .num n, .op o c d, h => by unfold TX.d at h; injection h with h; injection h with _ h; injection h with _ h; cases h
  | .key n, .num m, h => by unfold TX.d at h; injection h with h; injection h with _ h; cases h
  | .key n, .key m, h => by unfold TX.d at h; injection h with h; injection h with h _; injection h with h; rw [h]
  | .key n, .op o c d, h => by unfold TX.d at h; injection h with h; injection h with _ h; cases h
  | .op o a b, .num m, h => by unfold TX.d at h; injection h with h; injection h with _ h; injection h with _ h; cases h
  | .op o a b, .key m, h => by unfold TX.d at h; injection h with h; injection h with _ h; cases h
  | .op o a b, .op o' a' b', h => by
    unfold TX.d at h
    injection h with h
    injection h with h1 h
    injection h with h2 h
    injection h with h3 _
    injection h1 with h1
    rw [h1, TX.inj a a' h2, TX.inj b b' h3]
theorem Ru.inj (r s : Ru) (h : r.d = s.d) : r = s := by
  obtain ⟨t, a, e, k⟩ := r
  obtain ⟨t', a', e', k'⟩ := s
  unfold Ru.d at h
  injection h with h
  injection h with h1 h
  injection h with h2 h
  injection h with h3 _
  have e1 := TX.inj _ _ h1
  have e3 := TX.inj _ _ h3
  dsimp only at e1 e3
  subst e1 e3
  unfold Ru.deed at h2
  cases a with
  | none =>
    cases a' with
    | none =>
      dsimp only at h2
      injection h2 with h2
      injection h2 with _ h2
      injection h2 with h2 _
      rw [TX.inj _ _ h2]
    | some p' =>
      dsimp only at h2
      injection h2 with h2
      injection h2 with _ h2
      injection h2 with _ h2
      cases h2
  | some p =>
    cases a' with
    | none =>
      dsimp only at h2
      injection h2 with h2
      injection h2 with _ h2
      injection h2 with _ h2
      cases h2
    | some p' =>
      dsimp only at h2
      injection h2 with h2
      injection h2 with _ h2
      injection h2 with hp h2
      injection h2 with h2 _
      injection hp with hp
      rw [TX.inj _ _ h2, hp]
theorem rs_inj : ∀ rs ss : List Ru, rs.map Ru.d = ss.map Ru.d → rs = ss
  | [], [], _ => rfl
  | [], _ :: _, h => by cases h
  | _ :: _, [], h => by cases h
  | r :: rs, s :: ss, h => by
    injection h with h1 h2
    rw [Ru.inj r s h1, rs_inj rs ss h2]
/-- how two tuples of rules compare -/
theorem rs_eqv (rs ss : List Ru) : PyData.eqv (.tuple (rs.map Ru.d)) (.tuple (ss.map Ru.d)) = true ↔ rs = ss := by
  refine ⟨fun h => ?_, fun h => ?_⟩
  · refine rs_inj _ _ (eqv_eqs _ _ (pln_rs _) (pln_rs _) ?_)
    simpa [PyData.eqv] using h
  · rw [h]
    exact eqv_rfl _ (pln_rs ss)
theorem rs_eqvL (rs ss : List Ru) : PyData.eqv (.list (rs.map Ru.d)) (.list (ss.map Ru.d)) = true ↔ rs = ss := by
  refine ⟨fun h => ?_, fun h => ?_⟩
  · refine rs_inj _ _ (eqv_eqs _ _ (pln_rs _) (pln_rs _) ?_)
    simpa [PyData.eqv] using h
  · rw [h]
    exact eqv_rfl _ (pln_rs ss)
/-! ### laid -/
theorem lay_name {p : Str} (h : isName p = true) : PyData.canLay0 (.str p) = true := by
  unfold isName at h
  rw [Bool.and_eq_true] at h
  have h2 := List.all_eq_true.mp h.2
  show (p.cps.all (· < 0x110000)) = true
  rw [← Array.all_toList, List.all_eq_true]
  intro c hc
  have h3 := h2 c hc
  refine decide_eq_true ?_
  rcases Bool.or_eq_true_iff.mp h3 with z | z
  · exact (by decide +kernel : ∀ c ∈ lets.cps.toList, c < 0x110000) c (of_decide_eq_true z)
  · exact (by decide +kernel : ∀ c ∈ digs.cps.toList, c < 0x110000) c (of_decide_eq_true z)
theorem lay_key : ∀ x ∈ knw, PyData.canLay0 (.str x) = true := by decide +kernel
theorem lay_op : ∀ x ∈ ops, PyData.canLay0 (.str x) = true := by decide +kernel
theorem lay_tx : ∀ {k : Nat} {e : TX}, tGood k e = true → PyData.canLay0 e.d = true ∧ PyData.depth e.d ≤ k
  | 0, _, h => by cases h
  | k + 1, .num n, _ => by
    refine ⟨?_, by simp [TX.d, PyData.depth, PyData.depthAll]⟩
    show (PyData.canLay0 (.str "number") && (true && true)) = true
    decide +kernel
  | k + 1, .key x, h => by
    refine ⟨?_, by simp [TX.d, PyData.depth, PyData.depthAll]⟩
    show (PyData.canLay0 (.str x) && true) = true
    rw [lay_key x (of_decide_eq_true h)]; rfl
  | k + 1, .op o a b, h => by
    unfold tGood at h
    rw [Bool.and_eq_true, Bool.and_eq_true] at h
    have ha := lay_tx h.1.2
    have hb := lay_tx h.2
    refine ⟨?_, ?_⟩
    · show (PyData.canLay0 (.str o) && (PyData.canLay0 a.d && (PyData.canLay0 b.d && true))) = true
      rw [lay_op o (of_decide_eq_true h.1.1), ha.1, hb.1]; rfl
    · simp only [TX.d, PyData.depth, PyData.depthAll]
      omega
theorem lay_ru {k : Nat} {r : Ru} (h : RuOk k r) : PyData.canLay0 r.d = true ∧ PyData.depth r.d ≤ k + 2 := by
  have ht := lay_tx h.t
  have he := lay_tx h.e
  have hk := lay_tx h.k
  have hd : PyData.canLay0 r.deed = true ∧ PyData.depth r.deed ≤ k + 1 := by
    unfold Ru.deed
    cases e : r.a with
    | none =>
      refine ⟨?_, ?_⟩
      · show (PyData.canLay0 (.str "say") && (PyData.canLay0 r.e.d && true)) = true
        rw [he.1, show PyData.canLay0 (.str "say") = true from by decide +kernel]; rfl
      · simp only [PyData.depth, PyData.depthAll]
        omega
    | some p =>
      refine ⟨?_, ?_⟩
      · show (PyData.canLay0 (.str "ask") && (PyData.canLay0 (.str p) && (PyData.canLay0 r.e.d && true))) = true
        rw [he.1, lay_name (h.a p e), show PyData.canLay0 (.str "ask") = true from by decide +kernel]; rfl
      · simp only [PyData.depth, PyData.depthAll]
        omega
  refine ⟨?_, ?_⟩
  · show (PyData.canLay0 r.t.d && (PyData.canLay0 r.deed && (PyData.canLay0 r.k.d && true))) = true
    rw [ht.1, hd.1, hk.1]; rfl
  · simp only [Ru.d, PyData.depth, PyData.depthAll]
    omega
theorem lay_rs {k : Nat} : ∀ {rs : List Ru}, (∀ r ∈ rs, RuOk k r) → PyData.canLayAll0 (rs.map Ru.d) = true ∧ PyData.depthAll (rs.map Ru.d) ≤ k + 2
  | [], _ => ⟨rfl, by simp [PyData.depthAll]⟩
  | r :: rs, h => by
    have a := lay_ru (h r (List.mem_cons_self ..))
    have b := lay_rs fun x hx => h x (List.mem_cons_of_mem _ hx)
    refine ⟨?_, ?_⟩
    · show (PyData.canLay0 r.d && PyData.canLayAll0 (rs.map Ru.d)) = true
      rw [a.1, b.1]; rfl
    · show max (PyData.depth r.d) (PyData.depthAll (rs.map Ru.d)) ≤ k + 2
      omega
theorem shaped_rs {k : Nat} {rs : List Ru} (hk : k ≤ 50) (h : ∀ r ∈ rs, RuOk k r) : SeqAt.shaped (.tuple (rs.map Ru.d)) = true ∧ SeqAt.shaped (.list (rs.map Ru.d)) = true := by
  have a := lay_rs h
  constructor
  · show (PyData.canLayAll0 (rs.map Ru.d) && decide (PyData.depthAll (rs.map Ru.d) + 1 ≤ 64)) = true
    rw [a.1, decide_eq_true (by omega)]
    rfl
  · show (PyData.canLayAll0 (rs.map Ru.d) && decide (PyData.depthAll (rs.map Ru.d) + 1 ≤ 64)) = true
    rw [a.1, decide_eq_true (by omega)]
    rfl
theorem RuOk.mono {k j : Nat} {r : Ru} (h : RuOk k r) (l : k ≤ j) : RuOk j r := ⟨tGood_le h.t l, tGood_le h.e l, tGood_le h.k l, h.a⟩
end Pz
set_option Elab.async false
set_option linter.all false
set_option maxRecDepth 100000
set_option maxHeartbeats 4000000
namespace Toy
open PySem L2 Mine NdefX Gm Pz
def KInv (K : PySem.W.Frag) (H : Hp) (kvs : List (Key × V)) (A : List Str) : Prop := ∀ x : Str, (x ∈ A → ∃ v, valV kvs (.inr x) = some v ∧ Dp K H v (TX.key x).d) ∧ (x ∉ A → valV kvs (.inr x) = none)
theorem KInv.add {K : PySem.W.Frag} {H : Hp} {kvs : List (Key × V)} {A : List Str} {y : Str} {v : V} (m : KInv K H kvs A) (d : Dp K H v (TX.key y).d) : KInv K H (putK kvs (.inr y) v) (A ++ [y]) := fun x => by
  have e : valV (putK kvs (.inr y) v) (.inr x) = if (Sum.inr x : Key) = .inr y then some v else valV kvs (.inr x) := valV_put kvs (.inr y) (.inr x) v
  rw [e]
  refine ⟨fun h => ?_, fun h => ?_⟩
  · by_cases c : x = y
    · rw [if_pos (by rw [c])]
      exact ⟨v, rfl, by rw [c]; exact d⟩
    · rw [if_neg (fun z => c (Sum.inr.inj z))]
      rcases List.mem_append.mp h with h | h
      · exact (m x).1 h
      · exact absurd (List.mem_singleton.mp h) c
  · have h1 : x ∉ A := fun z => h (List.mem_append_left _ z)
    have h2 : x ≠ y := fun z => h (List.mem_append_right _ (List.mem_singleton.mpr z))
    rw [if_neg (fun z => h2 (Sum.inr.inj z))]
    exact (m x).2 h1
theorem KInv.tups {K : PySem.W.Frag} {H H' : Hp} {kvs : List (Key × V)} {A : List Str} (t : Tups H H') (m : KInv K H kvs A) : KInv K H' kvs A := fun x => ⟨fun h => by
    obtain ⟨v, e, d⟩ := (m x).1 h
    exact ⟨v, e, dp_tups t _ _ (TX.nol _) d⟩, (m x).2⟩
theorem Tups.dK {H : Hp} {l : Addr} {xs : List (Key × V)} {o : HO} (h : H l = some (.dK xs)) : Tups H (upd H l o) := fun b u e k => by
  rw [upd_ne]
  · exact e
  · intro z
    subst z
    rw [h] at e
    cases e
    rcases k with ⟨_, z⟩ | ⟨_, _, z⟩ <;> cases z
def spPart (C B : Addr) (K : PySem.W.Frag) : Sp := fun vs H Q E => ∃ (p l : Addr) (ws : List Str) (i : Nat), vs = [.ref p] ∧ WAt C H p l ws i ∧ TxEnd C B K p l ws H Q E (pTx ws 7 i)
def RuEnd (C B : Addr) (K : PySem.W.Frag) (p l : Addr) (ws : List Str) (H : Hp) (Q : VK) (E : XK) : Except Nat (Ru × Nat) → Prop
  | .ok (r, j) => ∀ v H', But p H H' → WAt C H' p l ws j → Dp K H' v r.d → Q v H'
  | .error j => Ref p B H j E
def spRule (C B : Addr) (K : PySem.W.Frag) : Sp := fun vs H Q E => ∃ (p l : Addr) (ws : List Str) (i : Nat), vs = [.ref p] ∧ WAt C H p l ws i ∧ RuEnd C B K p l ws H Q E (pRule ws i)
def TacAt (C : Addr) (K : PySem.W.Frag) (H : Hp) (r : Addr) (rs : List Ru) : Prop := ∃ dx t, H r = some (.ins C dx [("rules", .ref t)]) ∧ Dp K H (.ref t) (.tuple (rs.map Ru.d))
theorem TacAt.same {C : Addr} {K : PySem.W.Frag} {H H' : Hp} {r : Addr} {rs : List Ru} (h : TacAt C K H r rs) (s : Same H H') : TacAt C K H' r rs :=
  let ⟨dx, t, e, d⟩ := h
  ⟨dx, t, s _ _ e, dp_mono s _ _ d⟩
def spTInit (C : Addr) (K : PySem.W.Frag) : Sp := fun vs H Q _ => ∃ (r dx t : Addr) (ys : List V), vs = [.ref r, .ref t] ∧ H r = some (.ins C dx []) ∧ SqT K H t ys ∧ Q .non (upd H r (.ins C dx [("rules", .ref t)]))
def spTEq (C : Addr) (K : PySem.W.Frag) : Sp := fun vs H Q _ => ∃ (a b : Addr) (rs ss : List Ru), vs = [.ref a, .ref b] ∧ TacAt C K H a rs ∧ TacAt C K H b ss ∧ (∀ r ∈ rs, RuOk 20 r) ∧ (∀ r ∈ ss, RuOk 20 r) ∧ ∀ z : Bool, (z = true ↔ rs = ss) → Q (.bl z) H
def spTac (C B : Addr) (K : PySem.W.Frag) : Sp := fun vs H Q E => ∃ x : Str, vs = [.str x] ∧ x.length ≤ 900000 ∧ (toWords x).length < 1000000 ∧ (∀ w ∈ toWords x, w.length ≤ 1000000) ∧
  match pTac (toWords x) with
  | .ok rs => ∀ r H', Same H H' → TacAt C K H' r rs → Q (.ref r) H'
  | .error j => ∀ d H', Same H H' → H' d = some (.xd [("at", .int j)]) → E (.ref B) (some d) H'
section
variable {P : Program} {w : World} {K : PySem.W.Frag} {mg : Str → Option Value} {base : Heap} {file : Str}
theorem ok_part (hP : PrF P file) (T : Txt K mg file) : FnOk P w K mg base (L2.CX P w) 14 T.a_read_part T.fd_read_part ["words"] (spPart T.C_Words T.C_BadText K) := by
  have G_read_expression : FnOk P w K mg base (L2.CX P w) 13 T.a_read_expression T.fd_read_expression ["words", "meanings", "tables", "depth"] (spTx T.C_Words T.C_BadText K 7) := ok_tx hP T 7
  refine T.F_read_part.okX sc_read_part (fun vs H Q E h => ?_) (fun cdv A outer s H vs Q E hr h => ?_)
  · obtain ⟨p, l, ws, i, rfl, _⟩ := h
    rfl
  obtain ⟨p, l, ws, i, rfl, W, q⟩ := h
  refine ⟨_, (pss_one (ps_ret (pe_call G_read_expression (hr.mono (by decide)) rfl T.g_read_expression T.k_read_expression T.db0_read_expression T.dv0_read_expression (passes_call (takes_of rfl rfl rfl rfl) (fun _ _ _ _ z => z)) (pa_cons (pv 0) (pa_cons (pe_dc (own := [("word", 1)]) (g := gName 1) (tt := tYes) rfl sc_read_part.nd (pi_tup (pe_glob (v := .ref T.a_KNOWN) rfl T.g_KNOWN rfl)) (blkOk_by (own := [("word", 1)]) (N := ["words", "word"]) (sc := defScope s_read_part) (by decide +kernel)) (fun _ _ _ _ _ => pg_name (i := 1) sc_read_part.nd rfl (Or.inl rfl)) (fun _ _ _ _ _ => pts_nil) (fun _ _ _ _ _ => (pv 1)) (fun _ _ _ _ _ => (pe_tup (pa_cons (pv 1) pa_nil)))) (pa_cons (pe_tup pa_nil) pa_nil)))))), ?_⟩
  refine ⟨_, rfl, _, rfl, ⟨_, T.q_KNOWN _⟩, fun D hD => ?_⟩
  refine dc_tup (K := K) (a := T.a_KNOWN) (xs := knw.map V.str) (fun i H' => Same H H' ∧ ∃ kvs, H' D = some (.dK kvs) ∧ kvs.length ≤ i ∧ KInv K H' kvs (knw.take i)) ⟨Gm.same_new hD _, [], upd_same, Nat.le_refl _, fun x => ⟨fun h => (by cases h), fun _ => rfl⟩⟩ (fun _ _ _ _ => T.q_KNOWN _) ?_ ?_
  · rintro i y H1 ey ⟨m1, kvs, e1, hl, inv⟩
    rw [List.getElem?_map] at ey
    obtain ⟨n, en, rfl⟩ := Option.map_eq_some_iff.mp ey
    refine ⟨rfl, ?_⟩
    refine ⟨_, rfl, _, rfl, by show 1 ≤ sizeLine; decide, fun t ht => ?_⟩
    have hi : i < 3 := Nat.lt_of_not_le fun z => by rw [List.getElem?_eq_none z] at en; cases en
    have m2 := Gm.same_new ht (.tup [V.str n])
    have e2 := m2 _ _ e1
    refine ⟨kvs, .inr n, rfl, e2, Nat.lt_of_le_of_lt hl (Nat.lt_of_lt_of_le hi (by decide)), ?_, _, upd_same, ?_, ?_⟩
    · intro b o e
      rw [upd_ne (ne_of_none e hD)]
      exact m2 _ _ (m1 _ _ e)
    · have := length_putK kvs (.inr n) (.ref t)
      omega
    · rw [take_more en]
      have tp := Tups.dK e2 (o := .dK (putK kvs (.inr n) (.ref t)))
      refine KInv.tups tp (KInv.add (KInv.tups (Tups.of m2) inv) ?_)
      exact dp_tup ht (.cons (.str _) .nil)
  · rintro H1 ⟨m1, kvs, e1, hl, inv⟩
    refine ⟨by show 0 ≤ sizeLine; decide, fun t ht => ?_⟩
    have m2 := Gm.same_new ht (.tup [])
    have m := m1.trans m2
    refine ⟨p, l, D, t, ws, i, rfl, W.same m, ⟨kvs, m2 _ _ e1, KInv.tups (Tups.of m2) inv⟩, SqT.of upd_same, ?_⟩
    cases x : pTx ws 7 i with
    | error j =>
      rw [x] at q
      exact Ref.later q (But.same m)
    | ok r =>
      obtain ⟨e, j⟩ := r
      rw [x] at q
      exact fun v H' b W' d => q v H' ((But.same m).trans b) W' d
theorem ok_rule (hP : PrF P file) (T : Txt K mg file) : FnOk P w K mg base (L2.CX P w) 15 T.a_read_rule T.fd_read_rule ["words"] (spRule T.C_Words T.C_BadText K) := by
  have G_read_part : FnOk P w K mg base (L2.CX P w) 14 T.a_read_part T.fd_read_part ["words"] (spPart T.C_Words T.C_BadText K) := ok_part hP T
  have G_Words_one_of : FnOk P w K mg base (L2.CX P w) 5 T.a_Words_one_of T.fd_Words_one_of ["self", "choices"] (spOneOf T.C_Words T.C_BadText K) := ok_one_of hP T
  have G_Words_name : FnOk P w K mg base (L2.CX P w) 5 T.a_Words_name T.fd_Words_name ["self", "taken"] (spName T.C_Words T.C_BadText K) := ok_name hP T
  refine T.F_read_rule.okX sc_read_rule (fun vs H Q E h => ?_) (fun cdv A outer s H vs Q E hr h => ?_)
  · obtain ⟨p, l, ws, i, rfl, _⟩ := h
    rfl
  obtain ⟨p, l, ws, i, rfl, W, q⟩ := h
  refine ⟨_, (pss_cons (ps_set (i := 1) sc_read_rule.nd rfl (Or.inl rfl) (pe_call G_read_part (hr.mono (by decide)) rfl T.g_read_part T.k_read_part T.b_read_part .nil (passes_call (takes_of rfl rfl rfl rfl) (fun _ _ _ _ z => z)) (pa_cons (pv 0) pa_nil)))
    (pss_cons (ps_set (i := 2) sc_read_rule.nd rfl (Or.inl rfl) (pe_meth (pv 0) T.cl_Words T.m_Words_one_of G_Words_one_of (hr.mono (by decide)) T.b_Words_one_of .nil (passes_call (takes_of rfl rfl rfl rfl) (fun _ _ _ _ z => z)) (pa_cons (pe_tup (pa_cons pe_str (pa_cons pe_str pa_nil))) pa_nil)))
    (pss_cons (ps_set (i := 3) sc_read_rule.nd rfl (Or.inl rfl) (pe_ifExp (pt_cmpR op_eq (pv 2) pe_str (nomark _)) (pe_lst (pa_cons (pe_meth0 (pv 0) T.cl_Words T.m_Words_name G_Words_name (hr.mono (by decide)) T.db0_Words_name T.dv0_Words_name (passes_call (takes_of rfl rfl rfl rfl) (fun _ _ _ _ z => z))) pa_nil)) (pe_lst pa_nil)))
    (pss_cons (ps_set (i := 4) sc_read_rule.nd rfl (Or.inl rfl) (pe_tup (pa_cons (pv 2) (StX.pa_star (pv 3) (pa_cons (pe_call G_read_part (hr.mono (by decide)) rfl T.g_read_part T.k_read_part T.b_read_part .nil (passes_call (takes_of rfl rfl rfl rfl) (fun _ _ _ _ z => z)) (pa_cons (pv 0) pa_nil)) pa_nil)))))
    (pss_one (ps_ret (pe_tup (pa_cons (pv 1) (pa_cons (pv 4) (pa_cons (pe_call G_read_part (hr.mono (by decide)) rfl T.g_read_part T.k_read_part T.b_read_part .nil (passes_call (takes_of rfl rfl rfl rfl) (fun _ _ _ _ z => z)) (pa_cons (pv 0) pa_nil)) pa_nil)))))))))), ?_⟩
  unfold pRule at q
  refine ⟨_, rfl, p, l, ws, i, rfl, W, ?_⟩
  cases x1 : pTx ws 7 i with
  | error j =>
    rw [x1] at q
    exact q
  | ok y =>
  obtain ⟨tt, j1⟩ := y
  rw [x1] at q
  dsimp only at q
  intro v1 H1 b1 W1 d1
  obtain ⟨dx, fs, e1, e2⟩ := W1.nomt (m := "one_of")
  refine ⟨_, rfl, p, dx, fs, rfl, e1, e2, by show 2 ≤ sizeLine; decide, fun t ht => ?_⟩
  have m2 := Gm.same_new ht (.tup [V.str "ask", V.str "say"])
  have W2 := W1.same m2
  have b2 : But p H _ := b1.trans (But.same m2)
  have d2 := dp_mono m2 _ _ d1
  have hT2 : SqT K (upd H1 t (.tup [V.str "ask", V.str "say"])) t ((["ask", "say"] : List Str).map V.str) := SqT.of upd_same
  revert W2 b2 d2 hT2
  clear m2
  generalize upd H1 t (.tup [V.str "ask", V.str "say"]) = H2
  intro W2 b2 d2 hT2
  unfold pDeed at q
  refine ⟨p, l, ws, j1, .ref t, ["ask", "say"], rfl, W2, ⟨t, rfl, .inr (.inl hT2)⟩, by decide +kernel, ?_⟩
  unfold Tk1
  by_cases ca : wd ws j1 = "ask"
  · rw [if_pos ca] at q
    rw [if_pos (decide_eq_true (show wd ws j1 ∈ (["ask", "say"] : List Str) by rw [ca]; exact List.mem_cons_self ..)), ca]
    intro H3 b23 W3
    obtain ⟨dx3, fs3, f1, f2⟩ := W3.nomt (m := "name")
    refine ⟨_, rfl, rfl, _, rfl, iteT ?_⟩
    have b3 := b2.trans b23
    have d3 := dp_tups (W2.tups b23) _ _ (TX.nol _) d2
    refine ⟨_, rfl, p, dx3, fs3, rfl, f1, f2, p, l, ws, j1 + 1, T.te0_Words_name, [], rfl, W3, .inr (T.qe0_Words_name _), ?_⟩
    unfold Tk1
    rw [show decide (wd ws (j1 + 1) ∈ ([] : List Str)) = false from rfl, Bool.not_false, Bool.and_true]
    by_cases cn : isName (wd ws (j1 + 1)) = true
    rotate_left
    · rw [if_neg cn] at q
      rw [if_neg cn]
      exact Ref.later q b3
    rw [if_pos cn] at q
    rw [if_pos cn]
    dsimp only at q
    intro H3' b33 W3'
    have b3' := b3.trans b33
    have d3' := dp_tups (W3.tups b33) _ _ (TX.nol _) d3
    refine ⟨by show 1 ≤ sizeLine; decide, fun L hL => ?_⟩

    -- the rest, from the list [V.str (wd ws (j1 + 1))] of what is named
    have hi3 : ∀ {b : Addr} {o : HO}, H3' b = some o → b ≠ L := fun e => ne_of_none e hL
    have m4 := Gm.same_new hL (.lst ([V.str (wd ws (j1 + 1))]))
    have W4 := W3'.same m4
    have b4 := b3'.trans (But.same m4)
    have d4 := dp_mono m4 _ _ d3'
    have hL4 : (upd H3' L (.lst ([V.str (wd ws (j1 + 1))]))) L = some (.lst ([V.str (wd ws (j1 + 1))])) := upd_same
    revert W4 b4 d4 hL4
    clear m4 hi3
    generalize upd H3' L (.lst ([V.str (wd ws (j1 + 1))])) = H4
    intro W4 b4 d4 hL4
    refine ⟨_, rfl, _, rfl, L, _, rfl, .inr (SqL.of hL4), _, rfl, p, l, ws, j1 + 1 + 1, rfl, W4, ?_⟩
    cases x3 : pTx ws 7 (j1 + 1 + 1) with
    | error j =>
      rw [x3] at q
      exact Ref.later q b4
    | ok y =>
    obtain ⟨ee, j3⟩ := y
    rw [x3] at q
    dsimp only at q
    intro v2 H5 b5 W5 d5
    have d45 := dp_tups (W4.tups b5) _ _ (TX.nol _) d4
    refine ⟨by show 3 ≤ sizeLine; decide, fun t2 ht2 => ?_⟩
    have m6 := Gm.same_new ht2 (.tup (V.str "ask" :: ([V.str (wd ws (j1 + 1))] ++ [v2])))
    have dd : Dp K (upd H5 t2 (.tup (V.str "ask" :: ([V.str (wd ws (j1 + 1))] ++ [v2])))) (.ref t2) (.tuple [.str "ask", .str (wd ws (j1 + 1)), ee.d]) := dp_tup ht2 (.cons (.str _) (.cons (.str _) (.cons d5 .nil)))
    have W6 := W5.same m6
    have b6 := (b4.trans b5).trans (But.same m6)
    have d6 := dp_mono m6 _ _ d45
    revert W6 b6 d6 dd
    clear m6
    generalize upd H5 t2 (.tup (V.str "ask" :: ([V.str (wd ws (j1 + 1))] ++ [v2]))) = H6
    intro dd W6 b6 d6
    refine ⟨_, rfl, _, rfl, _, rfl, p, l, ws, j3, rfl, W6, ?_⟩
    cases x4 : pTx ws 7 j3 with
    | error j =>
      rw [x4] at q
      exact Ref.later q b6
    | ok y =>
    obtain ⟨kk, j4⟩ := y
    rw [x4] at q
    dsimp only at q
    intro v3 H7 b7 W7 d7
    have t67 := W6.tups b7
    refine ⟨by show 3 ≤ sizeLine; decide, fun t3 ht3 => ?_⟩
    refine q _ _ ((b6.trans b7).trans (But.same (Gm.same_new ht3 _))) (W7.same (Gm.same_new ht3 _)) ?_
    exact dp_tup ht3 (.cons (dp_tups t67 _ _ (TX.nol _) d6) (.cons (dp_tups t67 _ _ (Ru.nol_deed ⟨tt, some (wd ws (j1 + 1)), ee, kk⟩) dd) (.cons d7 .nil)))

  · rw [if_neg ca] at q
    by_cases cs : wd ws j1 = "say"
    rotate_left
    · rw [if_neg cs] at q
      rw [if_neg (by
        intro z
        have := of_decide_eq_true z
        simp only [List.mem_cons, List.not_mem_nil, or_false] at this
        exact this.elim ca cs)]
      exact Ref.later q b2
    rw [if_pos cs] at q
    dsimp only at q
    rw [if_pos (decide_eq_true (show wd ws j1 ∈ (["ask", "say"] : List Str) by rw [cs]; exact List.mem_cons_of_mem _ (List.mem_cons_self ..))), cs]
    intro H3 b23 W3
    refine ⟨_, rfl, rfl, _, rfl, iteF ?_⟩
    have b3 := b2.trans b23
    have d3 := dp_tups (W2.tups b23) _ _ (TX.nol _) d2
    refine ⟨by show 0 ≤ sizeLine; decide, fun L hL => ?_⟩

    -- the rest, from the list ([] : List V) of what is named
    have hi3 : ∀ {b : Addr} {o : HO}, H3 b = some o → b ≠ L := fun e => ne_of_none e hL
    have m4 := Gm.same_new hL (.lst (([] : List V)))
    have W4 := W3.same m4
    have b4 := b3.trans (But.same m4)
    have d4 := dp_mono m4 _ _ d3
    have hL4 : (upd H3 L (.lst (([] : List V)))) L = some (.lst (([] : List V))) := upd_same
    revert W4 b4 d4 hL4
    clear m4 hi3
    generalize upd H3 L (.lst (([] : List V))) = H4
    intro W4 b4 d4 hL4
    refine ⟨_, rfl, _, rfl, L, _, rfl, .inr (SqL.of hL4), _, rfl, p, l, ws, j1 + 1, rfl, W4, ?_⟩
    cases x3 : pTx ws 7 (j1 + 1) with
    | error j =>
      rw [x3] at q
      exact Ref.later q b4
    | ok y =>
    obtain ⟨ee, j3⟩ := y
    rw [x3] at q
    dsimp only at q
    intro v2 H5 b5 W5 d5
    have d45 := dp_tups (W4.tups b5) _ _ (TX.nol _) d4
    refine ⟨by show 2 ≤ sizeLine; decide, fun t2 ht2 => ?_⟩
    have m6 := Gm.same_new ht2 (.tup (V.str "say" :: ([] ++ [v2])))
    have dd : Dp K (upd H5 t2 (.tup (V.str "say" :: ([] ++ [v2])))) (.ref t2) (.tuple [.str "say", ee.d]) := dp_tup ht2 (.cons (.str _) (.cons d5 .nil))
    have W6 := W5.same m6
    have b6 := (b4.trans b5).trans (But.same m6)
    have d6 := dp_mono m6 _ _ d45
    revert W6 b6 d6 dd
    clear m6
    generalize upd H5 t2 (.tup (V.str "say" :: ([] ++ [v2]))) = H6
    intro dd W6 b6 d6
    refine ⟨_, rfl, _, rfl, _, rfl, p, l, ws, j3, rfl, W6, ?_⟩
    cases x4 : pTx ws 7 j3 with
    | error j =>
      rw [x4] at q
      exact Ref.later q b6
    | ok y =>
    obtain ⟨kk, j4⟩ := y
    rw [x4] at q
    dsimp only at q
    intro v3 H7 b7 W7 d7
    have t67 := W6.tups b7
    refine ⟨by show 3 ≤ sizeLine; decide, fun t3 ht3 => ?_⟩
    refine q _ _ ((b6.trans b7).trans (But.same (Gm.same_new ht3 _))) (W7.same (Gm.same_new ht3 _)) ?_
    exact dp_tup ht3 (.cons (dp_tups t67 _ _ (TX.nol _) d6) (.cons (dp_tups t67 _ _ (Ru.nol_deed ⟨tt, none, ee, kk⟩) dd) (.cons d7 .nil)))
end
end Toy
set_option Elab.async false
set_option linter.all false
set_option maxRecDepth 100000
set_option maxHeartbeats 4000000
namespace Toy
open PySem L2 Mine NdefX Gm Pz
section
variable {P : Program} {w : World} {K : PySem.W.Frag} {mg : Str → Option Value} {base : Heap} {file : Str}
theorem ok_tinit (T : Txt K mg file) : FnOk P w K mg base CX0 1 T.a_Tactic_init T.fd_Tactic_init ["self", "rules"] (spTInit T.C_Tactic K) := by
  refine T.F_Tactic_init.ok sc_Tactic_init (fun vs H Q E h => ?_) (fun cdv A outer s H vs Q E hr h => ?_)
  · obtain ⟨r, dx, t, ys, rfl, _⟩ := h
    rfl
  obtain ⟨r, dx, t, ys, rfl, hr', ht, q⟩ := h
  refine ⟨_, (pss_one (ps_fld (pv 0) (pe_callTy call_tupleT (by rfl) T.z_tuple (by decide +kernel) (pa_cons (pv 1) pa_nil)) rfl)), ?_⟩
  exact ⟨_, rfl, t, ys, rfl, ht, _, rfl, r, _, dx, _, rfl, hr', T.cl_Tactic, T.na_Tactic_rules, (by show 0 < 1000; decide), q⟩
theorem ok_teq (T : Txt K mg file) : FnOk P w K mg base CX0 1 T.a_Tactic_eq T.fd_Tactic_eq ["self", "other"] (spTEq T.C_Tactic K) := by
  refine T.F_Tactic_eq.ok sc_Tactic_eq (fun vs H Q E h => ?_) (fun cdv A outer s H vs Q E hr h => ?_)
  · obtain ⟨a, b, rs, ss, rfl, _⟩ := h
    rfl
  obtain ⟨a, b, rs, ss, rfl, ⟨da, ta, ha, ea⟩, ⟨db, tb, hb, eb⟩, ga, gb, q⟩ := h
  refine ⟨_, (pss_one (ps_ret (pe_and (pe_callB call_isi (by rfl) T.z_isinstance (by decide +kernel) (pa_cons (pv 1) (pa_cons (pe_glob (v := .ref T.C_Tactic) rfl T.g_Tactic rfl) pa_nil))) (pe_one (pe_cmpR (op_eqD hr.units) (pe_fld (pv 0) rfl) (pe_fld (pv 1) rfl) (nomark _)))))), ?_⟩
  refine ⟨_, rfl, _, _, _, _, true, rfl, .own _, .base (.ins hb T.cl_Tactic T.ia_Tactic T.o_n T.o_t T.im_Tactic), T.ik_Tactic, true, rfl, iteT ?_⟩
  refine ⟨_, rfl, a, _, da, _, _, rfl, ha, T.cl_Tactic, T.na_Tactic_rules, rfl, _, rfl, b, _, db, _, _, rfl, hb, T.cl_Tactic, T.na_Tactic_rules, rfl, ?_⟩
  exact ⟨_, _, ea, eb, (shaped_rs (by decide) ga).1, (shaped_rs (by decide) gb).1, q _ (rs_eqv rs ss)⟩
theorem tac_read (hP : PrF P file) (T : Txt K mg file) : FnOk P w K mg base (L2.CX P w) 16 T.a_read_tactic T.fd_read_tactic ["text"] (spTac T.C_Tactic T.C_BadText K) := by
  have G_Words_init : FnOk P w K mg base CX0 2 T.a_Words_init T.fd_Words_init ["self", "text"] (spWords T.C_Words) := ok_Words T
  have G_Words_ahead : FnOk P w K mg base CX0 2 T.a_Words_ahead T.fd_Words_ahead ["self"] (spAhead T.C_Words) := ok_ahead T
  have G_Words_take : FnOk P w K mg base CX0 3 T.a_Words_take T.fd_Words_take ["self"] (spTake T.C_Words) := ok_take T
  have G_read_rule : FnOk P w K mg base (L2.CX P w) 15 T.a_read_rule T.fd_read_rule ["words"] (spRule T.C_Words T.C_BadText K) := ok_rule hP T
  have G_Words_finish : FnOk P w K mg base (L2.CX P w) 5 T.a_Words_finish T.fd_Words_finish ["self"] (spFinish T.C_Words T.C_BadText) := ok_finish hP T
  have G_Tactic_init : FnOk P w K mg base CX0 1 T.a_Tactic_init T.fd_Tactic_init ["self", "rules"] (spTInit T.C_Tactic K) := ok_tinit T
  refine T.F_read_tactic.okX sc_read_tactic (fun vs H Q E h => ?_) (fun cdv A outer s H vs Q E hr h => ?_)
  · obtain ⟨x, rfl, _⟩ := h
    rfl
  obtain ⟨x, rfl, hx, hs, hw, q⟩ := h
  refine ⟨_, (pss_cons (ps_set (i := 1) sc_read_tactic.nd rfl (Or.inl rfl) (pe_make T.mk_Words G_Words_init (hr.mono (by decide)) rfl T.g_Words T.b_Words_init .nil pass0 (pa_cons (pv 0) pa_nil)))
    (pss_cons (ps_set (i := 2) sc_read_tactic.nd rfl (Or.inl rfl) (pe_lst pa_nil))
    (pss_cons (ps_while (passes_of rfl) (PW.pt (pw_and (pt_cmpR op_eq (pe_meth0 (pv 1) T.cl_Words T.m_Words_ahead G_Words_ahead (hr.mono (by decide)) T.b_Words_ahead .nil pass0) pe_str (nomark _)) (pw_and1 (pt_cmpR op_lt (pe_callB call_len_seq (by rfl) T.z_len (by decide +kernel) (pa_cons (pv 2) pa_nil)) (pe_glob (v := .int 20) rfl T.g_MOST_RULES.choose_spec ⟨_, rfl⟩) (nomark _)))))
      (pss_cons (ps_expr (pe_meth0 (pv 1) T.cl_Words T.m_Words_take G_Words_take (hr.mono (by decide)) T.b_Words_take .nil pass0))
    (pss_one (ps_expr (pe_bm PySem.F.plainAttrs_list PySem.F.slot_list_append PySem.F.type_list_append mt_append (pv 2) (pa_cons (pe_call G_read_rule (hr.mono (by decide)) rfl T.g_read_rule T.k_read_rule T.b_read_rule .nil (passes_call (takes_of rfl rfl rfl rfl) (fun _ _ _ _ z => z)) (pa_cons (pv 1) pa_nil)) pa_nil))))))
    (pss_cons (ps_expr (pe_meth0 (pv 1) T.cl_Words T.m_Words_finish G_Words_finish (hr.mono (by decide)) T.b_Words_finish .nil (passes_call (takes_of rfl rfl rfl rfl) (fun _ _ _ _ z => z))))
    (pss_one (ps_ret (pe_make T.mk_Tactic G_Tactic_init (hr.mono (by decide)) rfl T.g_Tactic T.b_Tactic_init .nil pass0 (pa_cons (pe_callTy call_tuple_of (by rfl) T.z_tuple (by decide +kernel) (pa_cons (pv 2) pa_nil)) pa_nil)))))))), ?_⟩
  refine ⟨_, rfl, fun p dx hp hdx ne => ⟨p, dx, x, rfl, upd_same, hx, hs, hw, fun l H1 b1 W1 => ⟨rfl, ?_⟩⟩⟩
  generalize toWords x = ws at q W1
  have S1 : Same H H1 := fun b o e => b1 _ _ (by rw [upd_ne (ne_of_none e hp), upd_ne (ne_of_none e hdx)]; exact e) (ne_of_none e hp)
  have S : ∀ {H' : Hp}, But p H1 H' → Same H H' := fun {H'} bb => But.all hp S1 bb
  refine ⟨by show 0 ≤ sizeLine; decide, fun L hL => ?_⟩
  have neL : p ≠ L := fun z => by
    obtain ⟨_, _, e, _⟩ := W1.ob
    rw [z, hL] at e
    cases e
  have neLl : l ≠ L := fun z => by
    have h1 := W1.li
    rw [z, hL] at h1
    cases h1
  have m0 := Gm.same_new hL (.lst [])
  unfold pTac at q
  generalize hR : pRules ws 20 [] 0 = R at q
  have ref : ∀ {H' : Hp} {j : Nat}, But p H1 H' → R = .error j → Ref p T.C_BadText H' j E := fun {H' j} bb e d H2 b2 hd => by
    rw [e] at q
    exact q d H2 (S (bb.trans b2)) hd
  refine ⟨fun m σ H' => ∃ (vs : List V) (rs : List Ru) (j : Nat), σ = [some (.str x), some (.ref p), some (.ref L)] ∧ But p H1 H' ∧ WAt T.C_Words H' p l ws j ∧ H' L = some (.lst vs) ∧ DpAll K H' vs (rs.map Ru.d) ∧ rs.length + m = 20 ∧
      pRules ws m rs j = R, ⟨20, [], [], 0, rfl, But.same m0, W1.same m0, upd_same, .nil, rfl, hR⟩, ?_⟩
  rintro m σ H2 ⟨vs, rs, j, rfl, b2, W2, hL2, dd, hm, eq⟩
  have lv : vs.length = rs.length := (DpAll.len dd).trans (List.length_map _)
  obtain ⟨dx2, fs2, e1, e2⟩ := W2.nomt (m := "ahead")
  refine ⟨_, rfl, p, dx2, fs2, rfl, e1, e2, p, l, ws, j, rfl, W2, rfl, _, rfl, ?_⟩
  refine (fun (k : ¬ (wd ws j = "when" ∧ vs.length < 20) → _) => ite2 (fun c1 => ?_) (fun c1 => iteF (k fun z => c1 (decide_eq_true (congrArg V.str z.1))))) ?_
  · have c1' : wd ws j = "when" := V.str.inj (of_decide_eq_true c1)
    refine ⟨_, rfl, L, vs, rfl, .inl (SqL.of hL2), _, _, rfl, rfl, _, rfl, ?_⟩
    refine ite2 (fun c2 => ?_) (fun c2 => ?_)
    rotate_left
    · exact k fun z => c2 (decide_eq_true (by have := z.2; omega))
    have c2' : vs.length < 20 := by have := of_decide_eq_true c2; omega
    obtain ⟨n, rfl⟩ : ∃ n, m = n + 1 := ⟨m - 1, by omega⟩
    unfold pRules at eq
    rw [if_pos c1'] at eq
    refine ⟨fun σ H' => ∃ (vs : List V) (rs : List Ru) (j : Nat), σ = [some (.str x), some (.ref p), some (.ref L)] ∧ But p H1 H' ∧ WAt T.C_Words H' p l ws j ∧ H' L = some (.lst vs) ∧ DpAll K H' vs (rs.map Ru.d) ∧ rs.length + n = 20 ∧
      pRules ws n rs j = R, fun σ' H' h => ⟨n, Nat.lt_succ_self n, h⟩, ?_⟩
    obtain ⟨dx3, fs3, f1, f2⟩ := W2.nomt (m := "take")
    refine ⟨_, rfl, p, dx3, fs3, rfl, f1, f2, p, l, ws, j, rfl, W2, W2.lt_of (by rw [c1']; decide +kernel), fun H3 b3 W3 => ?_⟩
    have hL3 := b3 _ _ hL2 (Ne.symm neL)
    have dd3 := dp_tupsAll (W2.tups b3) _ _ (nolAll_rs rs) dd
    refine ⟨_, rfl, .inl ⟨rfl, _, SqL.of hL3⟩, _, rfl, p, l, ws, j + 1, rfl, W3, ?_⟩
    cases x1 : pRule ws (j + 1) with
    | error y =>
      rw [x1] at eq
      exact ref (b2.trans b3) eq.symm
    | ok y =>
    obtain ⟨r, j2⟩ := y
    rw [x1] at eq
    dsimp only at eq
    intro v H4 b4 W4 d4
    have hL4 := b4 _ _ hL3 (Ne.symm neL)
    have dd4 := dp_tupsAll (W3.tups b4) _ _ (nolAll_rs rs) dd3
    have tp := Tups.lst hL4 (o := .lst (vs ++ [v]))
    refine ⟨L, vs, v, rfl, rfl, hL4, Nat.lt_of_lt_of_le c2' (by decide), vs ++ [v], rs ++ [r], j2, rfl, fun b o e nb => ?_, ?_, upd_same, ?_, ?_, eq⟩
    · by_cases hb : b = L
      · rw [hb, hL] at e
        cases e
      · rw [upd_ne hb]
        exact ((b2.trans b3).trans b4) b o e nb
    · obtain ⟨dx9, fs9, e9, rest⟩ := W4.ob
      exact ⟨⟨dx9, fs9, by rw [upd_ne neL]; exact e9, rest⟩, by rw [upd_ne neLl]; exact W4.li, W4.le, W4.sz, W4.wl⟩
    · rw [List.map_append]
      exact DpAll.app (dp_tupsAll tp _ _ (nolAll_rs rs) dd4) (.cons (dp_tups tp _ _ (Ru.nol r) d4) .nil)
    · rw [List.length_append]
      show rs.length + 1 + n = 20
      omega
  · intro nk
    have hb : pRules ws m rs j = .ok (rs, j) := by
      cases m with
      | zero => unfold pRules; rfl
      | succ n =>
        unfold pRules
        rw [if_neg (fun z => nk ⟨z, by omega⟩)]
    rw [← eq, hb] at q
    dsimp only at q
    obtain ⟨dx3, fs3, f1, f2⟩ := W2.nomt (m := "finish")
    refine ⟨_, rfl, p, dx3, fs3, rfl, f1, f2, p, l, ws, j, rfl, W2, ?_⟩
    by_cases c : j = ws.length
    rotate_left
    · rw [if_neg c] at q
      rw [if_neg c]
      exact fun d H3 b3 hd => q d H3 (S (b2.trans b3)) hd
    rw [if_pos c] at q
    rw [if_pos c]
    refine ⟨_, rfl, L, vs, rfl, .inl ⟨SqL.of hL2, fun t ht => ?_⟩⟩
    have m3 := Gm.same_new ht (.tup vs)
    have dt : Dp K (upd H2 t (.tup vs)) (.ref t) (.tuple (rs.map Ru.d)) := dp_tup ht dd
    have St : Same H (upd H2 t (.tup vs)) := (S b2).trans m3
    have ht' : SqT K (upd H2 t (.tup vs)) t vs := SqT.of upd_same
    revert St dt ht'
    generalize upd H2 t (.tup vs) = H3
    intro dt St ht'
    refine fun r dr hr' hdr nr => ⟨r, dr, t, vs, rfl, upd_same, sqT_mono (same_make hr' hdr) ht', ⟨rfl, ?_⟩⟩
    refine q r _ (St.trans fun b o e => ?_) ⟨dr, t, upd_same, ?_⟩
    · rw [upd_ne (ne_of_none e hr')]
      exact same_make hr' hdr b o e
    · refine dp_mono (fun b o e => ?_) _ _ dt
      rw [upd_ne (ne_of_none e hr')]
      exact same_make hr' hdr b o e
end
end Toy
set_option Elab.async false
set_option linter.all false
set_option maxRecDepth 100000
set_option maxHeartbeats 4000000
namespace Toy
open PySem L2 Mine NdefX Gm Pz
theorem ds_str (x y : Str) : decide (V.str x = V.str y) = decide (x = y) := decide_eq_decide.mpr ⟨V.str.inj, congrArg V.str⟩
theorem none_of_same {H H' : Hp} {p : Addr} (m : Same H H') (h : H' p = none) : H p = none := by
  cases x : H p with
  | none => rfl
  | some o => rw [m _ _ x] at h; cases h
def spTW (K : PySem.W.Frag) (k : Nat) : Sp := fun vs H Q _ => ∃ (v : V) (e : TX), vs = [v] ∧ Dp K H v e.d ∧ tGood k e = true ∧ (tWords e).length ≤ 1000000 ∧ NewL H Q (tWords e)
def rsText (rs : List Ru) : Str := Txt.join " " (rsWords rs)
def spTText (C : Addr) (K : PySem.W.Frag) : Sp := fun vs H Q _ => ∃ (r : Addr) (rs : List Ru), vs = [.ref r] ∧ TacAt C K H r rs ∧ (∀ x ∈ rs, RuOk 8 x) ∧ (rsWords rs).length ≤ 1000000 ∧ ((rsWords rs).map (·.length)).sum ≤ 10000000 ∧ ∀ H', Same H H' → Q (.str (rsText rs)) H'
theorem flatMap_take {α β : Type} {f : α → List β} {xs : List α} {i : Nat} {x : α} (h : xs[i]? = some x) : (xs.take (i + 1)).flatMap f = (xs.take i).flatMap f ++ f x := by
  rw [take_more h, List.flatMap_append]
  simp
theorem flatMap_len {α β : Type} {f : α → List β} : ∀ {xs : List α} {i : Nat}, ((xs.take i).flatMap f).length ≤ (xs.flatMap f).length
  | [], _ => by simp
  | x :: xs, 0 => by simp
  | x :: xs, i + 1 => by
    have := flatMap_len (f := f) (xs := xs) (i := i)
    simp only [List.take_succ_cons, List.flatMap_cons, List.length_append]
    omega
theorem flatMap_one {α β : Type} {f : α → List β} {xs : List α} {i : Nat} {x : α} (h : xs[i]? = some x) : ((xs.take i).flatMap f).length + (f x).length ≤ (xs.flatMap f).length := by
  rw [← List.length_append, ← flatMap_take h]
  exact flatMap_len
theorem cut_mid (x y : V) (xs : List V) : cutV (x :: xs ++ [y]) (some 1) (some (-1)) = xs := by
  have e1 : HT.sIx (x :: xs ++ [y]).length 0 (some 1) = 1 := by
    have : ¬ ((1 : Int) < 0) := by decide
    simp [HT.sIx]
  have e2 : HT.sIx (x :: xs ++ [y]).length (x :: xs ++ [y]).length (some (-1)) = xs.length + 1 := by
    have : ((-1 : Int) < 0) := by decide
    simp [HT.sIx]
    omega
  unfold cutV
  rw [e1, e2]
  simp
theorem atI_last (xs : List V) (v : V) : atI (xs ++ [v]) (-1) = some v := by
  have e : ixN (xs ++ [v]).length (-1) = some xs.length := by
    unfold ixN
    rw [if_neg (by decide), List.length_append]
    simp
    omega
  unfold atI
  rw [e]
  simp
section
variable {P : Program} {w : World} {K : PySem.W.Frag} {mg : Str → Option Value} {base : Heap} {file : Str}
theorem ok_tw_step (T : Txt K mg file) (k : Nat) (sp0 : Sp) (G_expression_words : FnOk P w K mg base CX0 (k + 1) T.a_expression_words T.fd_expression_words ["expression"] sp0) (hsp : ∀ j, k = j + 1 → ∀ vs H Q E, spTW K j vs H Q E → sp0 vs H Q E) :
    FnOk P w K mg base CX0 (k + 2) T.a_expression_words T.fd_expression_words ["expression"] (spTW K k) := by
  refine T.F_expression_words.ok sc_expression_words (fun vs H Q E h => ?_) (fun cdv A outer s H vs Q E hr h => ?_)
  · obtain ⟨v, e, rfl, _⟩ := h
    rfl
  obtain ⟨v, e, rfl, d, g, hl, q⟩ := h
  refine ⟨_, (pss_cons (ps_set (i := 1) sc_expression_words.nd rfl (Or.inl rfl) (pe_ix ix_tup (pv 0) pe_int (fun _ _ => rfl)))
    (pss_cons (ps_if (pt_cmpR op_eq (pe_callB call_len_seq (by rfl) T.z_len (by decide +kernel) (pa_cons (pv 0) pa_nil)) pe_int (nomark _))
      (pss_one (ps_ret (pe_lst (pa_cons (pv 1) pa_nil))))
      pss_nil)
    (pss_cons (ps_if (pt_cmpR op_eq (pv 1) pe_str (nomark _))
      (pss_one (ps_ret (pe_lst (pa_cons (pe_callTy call_str_int (by rfl) T.z_str (by decide +kernel) (pa_cons (pe_ix ix_tup (pv 0) pe_int (fun _ _ => rfl)) pa_nil)) pa_nil))))
      pss_nil)
    (pss_cons (ps_if (pt_cmpR op_in_seq (pv 1) (pe_tup (pa_cons pe_str (pa_cons pe_str pa_nil))) rfl)
      (pss_one (ps_ret (pe_lst (pa_cons (pe_ix ix_tup (pv 0) pe_int (fun _ _ => rfl)) pa_nil))))
      pss_nil)
    (pss_cons (ps_if (pt_cmpR op_in_seq (pv 1) (pe_glob (v := .ref T.a_LOOKS) rfl T.g_LOOKS rfl) rfl)
      (pss_one (ps_ret (pe_lst (pa_cons (pv 1) (pa_cons (pe_ix ix_tup (pv 0) pe_int (fun _ _ => rfl)) (StX.pa_star (pe_call G_expression_words (hr.mono (by omega)) rfl T.g_expression_words T.k_expression_words T.b_expression_words .nil pass0 (pa_cons (pe_ix ix_tup (pv 0) pe_int (fun _ _ => rfl)) pa_nil)) pa_nil))))))
      pss_nil)
    (pss_one (ps_ret (pe_lst (pa_cons (pv 1) (StX.pa_star (pe_call G_expression_words (hr.mono (by omega)) rfl T.g_expression_words T.k_expression_words T.b_expression_words .nil pass0 (pa_cons (pe_ix ix_tup (pv 0) pe_int (fun _ _ => rfl)) pa_nil)) (StX.pa_star (pe_call G_expression_words (hr.mono (by omega)) rfl T.g_expression_words T.k_expression_words T.b_expression_words .nil pass0 (pa_cons (pe_ix ix_tup (pv 0) pe_int (fun _ _ => rfl)) pa_nil)) pa_nil))))))))))), ?_⟩
  have one : ∀ (x : Str) (H1 : Hp), Same H H1 → tWords e = [x] → ∀ p, H1 p = none → Q (.ref p) (upd H1 p (.lst [V.str x])) := fun x H1 m ee p hp => by
    rw [ee] at q
    exact (q.same m) p _ (Gm.same_new hp _) hp upd_same
  cases k with
  | zero => cases e <;> (unfold tGood at g; cases g)
  | succ j =>
  have hsp' := hsp j rfl
  cases e with
  | num n =>
    unfold TX.d at d
    cases d with
    | @tup a xs ds hs ha =>
    cases ha with
    | cons h1 h2 =>
    cases h1
    cases h2 with
    | cons h3 h4 =>
    cases h3
    cases h4
    have g' : 0 ≤ n ∧ n ≤ 65535 := by unfold tGood at g; exact of_decide_eq_true g
    refine ⟨_, rfl, a, _, 0, _, rfl, rfl, hs, atI_nat (j := 0) rfl, ?_⟩
    refine ⟨_, rfl, a, _, rfl, .inr hs, rfl, _, rfl, ?_⟩
    refine ite2 (fun z => absurd z (by simp)) (fun _ => ?_)
    refine ⟨_, rfl, rfl, _, rfl, ?_⟩
    refine ite2 (fun _ => ?_) (fun z => absurd (by rw [ds_str]; exact decide_eq_true rfl) z)
    refine ⟨_, rfl, a, _, 1, _, rfl, rfl, hs, atI_nat (j := 1) rfl, n, rfl, small_log g'.1 (by omega), by show 1 ≤ sizeLine; decide, fun p hp => ?_⟩
    exact one _ H (Same.refl _) rfl p hp
  | key x =>
    unfold TX.d at d
    cases d with
    | @tup a xs ds hs ha =>
    cases ha with
    | cons h1 h2 =>
    cases h1
    cases h2
    refine ⟨_, rfl, a, _, 0, _, rfl, rfl, hs, atI_nat (j := 0) rfl, ?_⟩
    refine ⟨_, rfl, a, _, rfl, .inr hs, rfl, _, rfl, ?_⟩
    refine ite2 (fun _ => ?_) (fun z => absurd (by simp) z)
    exact ⟨_, rfl, by show 1 ≤ sizeLine; decide, fun p hp => one _ _ (Same.refl _) rfl p hp⟩
  | op o x y =>
    unfold TX.d at d
    cases d with
    | @tup a xs ds hs ha =>
    cases ha with
    | cons h1 h2 =>
    cases h1
    cases h2 with
    | cons h3 h4 =>
    cases h4 with
    | cons h5 h6 =>
    cases h6
    have g' : o ∈ ops ∧ tGood j x = true ∧ tGood j y = true := by
      unfold tGood at g
      rw [Bool.and_eq_true, Bool.and_eq_true] at g
      exact ⟨of_decide_eq_true g.1.1, g.1.2, g.2⟩
    have n1 : o ≠ "number" := fun z => by rw [z] at g'; exact absurd g'.1 (by decide)
    have n2 : o ∉ ([("local" : Str), "variable"] : List Str) := fun z => (by decide : ∀ o ∈ ops, o ∉ ([("local" : Str), "variable"] : List Str)) o g'.1 z
    have n3 : o ∉ looks := fun z => (by decide : ∀ o ∈ ops, o ∉ looks) o g'.1 z
    refine ⟨_, rfl, a, _, 0, _, rfl, rfl, hs, atI_nat (j := 0) rfl, ?_⟩
    refine ⟨_, rfl, a, _, rfl, .inr hs, rfl, _, rfl, ?_⟩
    refine ite2 (fun z => absurd z (by simp)) (fun _ => ?_)
    refine ⟨_, rfl, rfl, _, rfl, ?_⟩
    refine ite2 (fun z => absurd z (by rw [ds_str]; rw [decide_eq_false n1]; decide)) (fun _ => ?_)
    refine ⟨_, rfl, by show 2 ≤ sizeLine; decide, fun t ht => ?_⟩
    have m1 := Gm.same_new ht (.tup [V.str "local", V.str "variable"])
    have hs1 := sqT_mono m1 hs
    refine ⟨t, _, rfl, .inr (SqT.of upd_same), rfl, rfl, _, rfl, ?_⟩
    have hi : ∀ w : Str, inV (.str w) [V.str "local", V.str "variable"] = decide (w ∈ ([("local" : Str), "variable"] : List Str)) := fun w => inV_strs w [("local" : Str), "variable"]
    rw [if_neg Bool.false_ne_true, hi]
    refine ite2 (fun z => absurd (of_decide_eq_true z) n2) (fun _ => ?_)
    refine ⟨_, rfl, _, _, rfl, .inr (T.q_LOOKS _), rfl, flat_strs _, _, rfl, ?_⟩
    rw [if_neg Bool.false_ne_true, inV_strs]
    refine ite2 (fun z => absurd (of_decide_eq_true z) n3) (fun _ => ?_)
    have el : tWords (.op o x y) = o :: (tWords x ++ tWords y) := rfl
    rw [el] at hl q
    have hx : (tWords x).length ≤ 1000000 := by simp only [List.length_cons, List.length_append] at hl; omega
    have hy : (tWords y).length ≤ 1000000 := by simp only [List.length_cons, List.length_append] at hl; omega
    refine ⟨_, rfl, _, rfl, a, _, 1, _, rfl, rfl, hs1, atI_nat (j := 1) rfl, ?_⟩
    refine hsp' _ _ _ _ ⟨_, x, rfl, dp_mono m1 _ _ h3, g'.2.1, hx, fun L H2 m2 hL e2 => ?_⟩
    refine ⟨L, _, rfl, .inr (SqL.of e2), _, rfl, a, _, 2, _, rfl, rfl, sqT_mono m2 hs1, atI_nat (j := 2) rfl, ?_⟩
    refine hsp' _ _ _ _ ⟨_, y, rfl, dp_mono (m1.trans m2) _ _ h5, g'.2.2, hy, fun L2 H3 m3 hL2 e3 => ?_⟩
    refine ⟨L2, _, rfl, .inr (SqL.of e3), ?_, fun p hp => ?_⟩
    · simp only [List.length_cons, List.length_append, List.length_map, List.length_nil]
      exact Nat.le_trans (show (tWords x).length + ((tWords y).length + 0) + 1 ≤ 2000001 by omega) (by decide)
    · have mm := (m1.trans m2).trans m3
      refine q p _ (mm.trans (Gm.same_new hp _)) (none_of_same mm hp) ?_
      rw [upd_same, List.append_nil, List.map_cons, List.map_append]
theorem ok_tw (T : Txt K mg file) : ∀ k : Nat, FnOk P w K mg base CX0 (k + 2) T.a_expression_words T.fd_expression_words ["expression"] (spTW K k)
  | 0 => ok_tw_step T 0 (fun _ _ _ _ => False) ⟨fun _ _ _ _ h => h.elim, fun _ _ _ _ _ _ _ _ _ _ _ _ _ h => h.elim⟩ (fun j h => absurd h (by omega))
  | k + 1 => ok_tw_step T (k + 1) _ (ok_tw T k) (fun j h vs H Q E q => by
      obtain rfl : k = j := by omega
      exact q)
theorem ok_text (T : Txt K mg file) : FnOk P w K mg base CX0 11 T.a_tactic_text T.fd_tactic_text ["tactic"] (spTText T.C_Tactic K) := by
  have G_expression_words : FnOk P w K mg base CX0 10 T.a_expression_words T.fd_expression_words ["expression"] (spTW K 8) := ok_tw T 8
  refine T.F_tactic_text.ok sc_tactic_text (fun vs H Q E h => ?_) (fun cdv A outer s H vs Q E hr h => ?_)
  · obtain ⟨r, rs, rfl, _⟩ := h
    rfl
  obtain ⟨r, rs, rfl, ⟨dx, tr, hr', dr⟩, g, hl, hsum, q⟩ := h
  refine ⟨_, (pss_cons (ps_set (i := 1) sc_tactic_text.nd rfl (Or.inl rfl) (pe_lst pa_nil))
    (pss_cons (ps_for PassesOwn.never rfl (pi_tup (pe_fld (pv 0) rfl)) (pg_tup rfl (pgs_cons (pg_name (i := 2) sc_tactic_text.nd rfl (Or.inl rfl)) (pgs_cons (pg_name (i := 3) sc_tactic_text.nd rfl (Or.inl rfl)) (pgs_cons (pg_name (i := 4) sc_tactic_text.nd rfl (Or.inl rfl)) pgs_nil))))
      (pss_cons (ps_expr (pe_bm PySem.F.plainAttrs_list PySem.F.slot_list_extend PySem.F.type_list_extend mt_extend (pv 1) (pa_cons (pe_lst (pa_cons pe_str (StX.pa_star (pe_call G_expression_words (hr.mono (by decide)) rfl T.g_expression_words T.k_expression_words T.b_expression_words .nil pass0 (pa_cons (pv 2) pa_nil)) (pa_cons (pe_ix ix_tup (pv 3) pe_int (fun _ _ => rfl)) (StX.pa_star (pe_slice (slTB K rfl) (pv 3) (po_some pe_int) (po_some (pe_un un_neg pe_int))) pa_nil))))) pa_nil)))
    (pss_one (ps_expr (pe_bm PySem.F.plainAttrs_list PySem.F.slot_list_extend PySem.F.type_list_extend mt_extend (pv 1) (pa_cons (pe_lst (StX.pa_star (pe_call G_expression_words (hr.mono (by decide)) rfl T.g_expression_words T.k_expression_words T.b_expression_words .nil pass0 (pa_cons (pe_ix ix_tup (pv 3) (pe_un un_neg pe_int) (fun _ _ => rfl)) pa_nil)) (StX.pa_star (pe_call G_expression_words (hr.mono (by decide)) rfl T.g_expression_words T.k_expression_words T.b_expression_words .nil pass0 (pa_cons (pv 4) pa_nil)) pa_nil))) pa_nil))))))
    (pss_one (ps_ret (pe_join pe_str (pv 1)))))), ?_⟩
  refine ⟨by show 0 ≤ sizeLine; decide, fun L hL => ?_⟩
  have m0 := Gm.same_new hL (.lst [])
  cases dr with
  | @tup a vs ds hs ha =>
  have lv : vs.length = rs.length := (DpAll.len ha).trans (List.length_map _)
  refine ⟨_, rfl, r, _, dx, _, _, rfl, m0 _ _ hr', T.cl_Tactic, T.na_Tactic_rules, rfl, tr, rfl, ⟨_, sqT_mono m0 hs⟩, ?_⟩
  refine for_it walk_tup (fun t σ H' => (∃ y2 y3 y4, σ = [some (.ref r), some (.ref L), y2, y3, y4]) ∧ Same H H' ∧ H' L = some (.lst ((rsWords (rs.take t)).map V.str))) ⟨⟨none, none, none, rfl⟩, m0, upd_same⟩ (fun t σ H' _ h => sqT_mono h.2.1 hs) ?_ ?_
  · rintro t y σ H1 H2 ht ⟨⟨y2, y3, y4, rfl⟩, m1, e1⟩ ⟨rfl, ey⟩
    obtain ⟨x, er⟩ : ∃ x, rs[t]? = some x := ⟨rs[t]'(by rw [← lv]; exact ht), List.getElem?_eq_getElem _⟩
    obtain ⟨y', ey', dy⟩ := DpAll.get ha (i := t) (d := Ru.d x) (by rw [List.getElem?_map, er]; rfl)
    rw [ey] at ey'
    cases ey'
    have gx := g x (List.mem_of_getElem? er)
    have hone : (rsWords (rs.take t)).length + (ruWords x).length ≤ (rsWords rs).length := flatMap_one er
    have hw : (ruWords x).length = 1 + ((tWords x.t).length + ((dWords x).length + ((tWords x.e).length + (tWords x.k).length))) := by
      unfold ruWords
      simp only [List.length_cons, List.length_append]
      omega
    unfold Ru.d at dy
    cases dy with
    | @tup b ws ds2 hs2 ha2 =>
    cases ha2 with
    | cons h1 h2 =>
    cases h2 with
    | @cons yd _ _ _ h3 h4 =>
    cases h4 with
    | cons h5 h6 =>
    cases h6
    refine ⟨b, _, rfl, sqT_mono m1 hs2, rfl, _, _, rfl, _, _, rfl, _, _, rfl, rfl, ?_⟩
    -- the deed
    obtain ⟨d0, dq, ve, ad, e0, ed, hs3, he⟩ : ∃ (d0 : Str) (dq : List Str) (ve : V) (ad : Addr), yd = .ref ad ∧ dWords x = d0 :: dq ∧ SqT K H ad (V.str d0 :: dq.map V.str ++ [ve]) ∧ Dp K H ve x.e.d := by
      unfold Ru.deed at h3
      unfold dWords
      cases e : x.a with
      | none =>
        rw [e] at h3
        cases h3 with
        | @tup c xs3 ds3 hs3 ha3 =>
        cases ha3 with
        | cons k1 k2 =>
        cases k1
        cases k2 with
        | cons k3 k4 =>
        cases k4
        exact ⟨"say", [], _, c, rfl, rfl, hs3, k3⟩
      | some p =>
        rw [e] at h3
        cases h3 with
        | @tup c xs3 ds3 hs3 ha3 =>
        cases ha3 with
        | cons k1 k2 =>
        cases k1
        cases k2 with
        | cons k3 k4 =>
        cases k3
        cases k4 with
        | cons k5 k6 =>
        cases k6
        exact ⟨"ask", [p], _, c, rfl, rfl, hs3, k5⟩
    subst e0
    rw [ed] at hw
    simp only [List.length_cons] at hw
    refine ⟨_, rfl, .inl ⟨rfl, _, SqL.of e1⟩, _, rfl, _, x.t, rfl, dp_mono m1 _ _ h1, gx.t, by omega, fun L2 H3 m3 hL2 e3 => ?_⟩
    have m13 := m1.trans m3
    refine ⟨L2, _, rfl, .inr (SqL.of e3), _, rfl, ad, _, 0, _, rfl, rfl, sqT_mono m13 hs3, atI_nat (j := 0) rfl, ?_⟩
    refine ⟨_, rfl, _, rfl, _, rfl, _, rfl, ad, _, rfl, sqT_mono m13 hs3, fun tq H4 m4 hq => ?_⟩
    rw [cut_mid] at hq
    have m14 := m13.trans m4
    refine ⟨tq, _, rfl, .inl hq, ?_, fun L5 hL5 => ?_⟩
    · simp only [List.length_map, List.length_append, List.length_cons, List.length_nil]
      exact Nat.le_trans (show (tWords x.t).length + (dq.length + 0 + 1) + 1 ≤ 2000000 by omega) (by decide)
    have m5 := Gm.same_new hL5 (.lst (V.str "when" :: ((tWords x.t).map V.str ++ V.str d0 :: (dq.map V.str ++ []))))
    have e5 : (upd H4 L5 (.lst (V.str "when" :: ((tWords x.t).map V.str ++ V.str d0 :: (dq.map V.str ++ []))))) L5 = some (.lst (V.str "when" :: ((tWords x.t).map V.str ++ V.str d0 :: (dq.map V.str ++ [])))) := upd_same
    refine ⟨L, L5, _, _, rfl, rfl, m5 _ _ (m4 _ _ (m3 _ _ e1)), e5, ?_, ?_⟩
    · simp only [List.length_map, List.length_append, List.length_cons, List.length_nil]
      exact Nat.le_trans (show (rsWords (rs.take t)).length + ((tWords x.t).length + (dq.length + 0 + 1) + 1) ≤ 2000000 by omega) (by decide)
    have S6 : Same H (upd (upd H4 L5 (.lst (V.str "when" :: ((tWords x.t).map V.str ++ V.str d0 :: (dq.map V.str ++ []))))) L (.lst ((rsWords (rs.take t)).map V.str ++ (V.str "when" :: ((tWords x.t).map V.str ++ V.str d0 :: (dq.map V.str ++ [])))))) := fun c o eb => by
      rw [upd_ne (ne_of_none eb hL)]
      exact m5 _ _ (m14 _ _ eb)
    have e6 : (upd (upd H4 L5 (.lst (V.str "when" :: ((tWords x.t).map V.str ++ V.str d0 :: (dq.map V.str ++ []))))) L (.lst ((rsWords (rs.take t)).map V.str ++ (V.str "when" :: ((tWords x.t).map V.str ++ V.str d0 :: (dq.map V.str ++ [])))))) L = some (.lst ((rsWords (rs.take t)).map V.str ++ (V.str "when" :: ((tWords x.t).map V.str ++ V.str d0 :: (dq.map V.str ++ []))))) := upd_same
    revert S6 e6
    generalize upd (upd H4 L5 (.lst (V.str "when" :: ((tWords x.t).map V.str ++ V.str d0 :: (dq.map V.str ++ []))))) L (.lst ((rsWords (rs.take t)).map V.str ++ (V.str "when" :: ((tWords x.t).map V.str ++ V.str d0 :: (dq.map V.str ++ []))))) = H6
    intro S6 e6
    refine ⟨_, rfl, .inl ⟨rfl, _, SqL.of e6⟩, _, rfl, _, rfl, ad, _, -1, _, rfl, rfl, sqT_mono S6 hs3, atI_last _ _, ?_⟩
    refine ⟨_, x.e, rfl, dp_mono S6 _ _ he, gx.e, by omega, fun L7 H7 m7 hL7 e7 => ?_⟩
    refine ⟨L7, _, rfl, .inr (SqL.of e7), _, rfl, _, x.k, rfl, dp_mono (S6.trans m7) _ _ h5, gx.k, by omega, fun L8 H8 m8 hL8 e8 => ?_⟩
    refine ⟨L8, _, rfl, .inr (SqL.of e8), ?_, fun L9 hL9 => ?_⟩
    · simp only [List.length_map, List.length_append, List.length_cons, List.length_nil]
      exact Nat.le_trans (show (tWords x.e).length + ((tWords x.k).length + 0) ≤ 2000000 by omega) (by decide)
    have m9 := Gm.same_new hL9 (.lst ((tWords x.e).map V.str ++ ((tWords x.k).map V.str ++ [])))
    refine ⟨L, L9, _, _, rfl, rfl, m9 _ _ (m8 _ _ (m7 _ _ e6)), upd_same, ?_, ⟨_, _, _, rfl⟩, fun c o eb => ?_, ?_⟩
    · simp only [List.length_map, List.length_append, List.length_cons, List.length_nil]
      exact Nat.le_trans (show (rsWords (rs.take t)).length + ((tWords x.t).length + (dq.length + 0 + 1) + 1) + ((tWords x.e).length + ((tWords x.k).length + 0)) ≤ 4000000 by omega) (by decide)
    · rw [upd_ne (ne_of_none eb hL)]
      exact m9 _ _ (m8 _ _ (m7 _ _ (S6 _ _ eb)))
    · have : rsWords (rs.take (t + 1)) = rsWords (rs.take t) ++ ruWords x := flatMap_take er
      rw [upd_same, this, List.map_append]
      unfold ruWords
      rw [ed]
      simp
  · rintro σ H1 ⟨⟨y2, y3, y4, rfl⟩, m1, e1⟩
    rw [lv, List.take_length] at e1
    refine ⟨⟨_, rfl⟩, _, rfl, _, L, rsWords rs, rfl, rfl, .inl (SqL.of e1), ?_, q H1 m1⟩
    have : (rsWords rs).length * (" " : Str).length = (rsWords rs).length := by
      rw [show (" " : Str).length = 1 from by decide +kernel, Nat.mul_one]
    rw [this]
    omega
end
end Toy
set_option Elab.async false
set_option linter.all false
set_option maxRecDepth 100000
set_option maxHeartbeats 4000000
namespace Toy
open PySem L2 NdefX Gm Pz
open Mine hiding same_new
def spCell (K : PySem.W.Frag) : Sp := fun vs H Q _ => ∃ (a : Addr) (ns : List Int) (k : Int), vs = [.ref a, .int k] ∧ SqL K H a (ns.map V.int) ∧ 0 ≤ k ∧ Q (.int (ns.getD k.toNat 0)) H
def spRow : Sp := fun vs H Q _ => ∃ (cell count size : Int), vs = [.int cell, .int count, .int size] ∧ 0 ≤ count ∧ count ≤ 1000 ∧ 0 < size ∧ size.natAbs < 2 ^ 100 ∧
  ∀ (p : Addr) (ns : List Int) (H' : Hp), Same H H' → H' p = some (.lst (ns.map V.int)) → ns.length = count.toNat → (∀ x ∈ ns, 0 ≤ x ∧ x < size) → Q (.ref p) H'
def sB : Nat → Int
  | 0 => 11
  | 1 => 3175
  | _ => 1000000
theorem sB_next {k : Nat} {c : Int} (h0 : 0 ≤ c) (h : c < sB (k + 1)) : 0 ≤ c / 5 / 63 ∧ c / 5 / 63 < sB k := by
  cases k with
  | zero =>
    have h : c < 3175 := h
    show 0 ≤ c / 5 / 63 ∧ c / 5 / 63 < 11
    omega
  | succ k =>
    have h : c < 1000000 := h
    cases k with
    | zero =>
      show 0 ≤ c / 5 / 63 ∧ c / 5 / 63 < 3175
      omega
    | succ k => show 0 ≤ c / 5 / 63 ∧ c / 5 / 63 < 1000000; omega
theorem sB_le (k : Nat) : sB k ≤ 1000000 := by
  match k with
  | 0 => decide
  | 1 => decide
  | k + 2 => exact Int.le_refl _
def spSight (K : PySem.W.Frag) (k : Nat) : Sp := fun vs H Q _ => ∃ c : Int, vs = [.int c] ∧ 0 ≤ c ∧ c < sB k ∧ ∀ (v : V) (e : TX) (H' : Hp), Same H H' → Dp K H' v e.d → tGood (k + 2) e = true → Q v H'
theorem pick_knw {r : Int} : ∃ x ∈ knw, atI ([.str "last", .str "made", .str "kept"] : List V) (r % 3) = some (.str x) := pick_mem (xs := knw) (by decide)
def sgn : List Str := ["=", "<", "+", "mod", "-", "*", "/"]
theorem sgn_ops : ∀ x ∈ sgn, x ∈ ops := by decide
theorem pick_sgn {r : Int} : ∃ x ∈ sgn, atI ([.str "=", .str "<", .str "+", .str "mod", .str "-", .str "*", .str "/"] : List V) (r % 7) = some (.str x) := pick_mem (xs := sgn) (by decide)
section
variable {P : Program} {w : World} {K : PySem.W.Frag} {mg : Str → Option Value} {base : Heap} {file : Str}
theorem ok_cell (T : Txt K mg file) : FnOk P w K mg base CX0 1 T.a_law_cell T.fd_law_cell ["script", "k"] (spCell K) := by
  refine T.F_law_cell.ok sc_law_cell (fun vs H Q E h => ?_) (fun cdv A outer s H vs Q E hr h => ?_)
  · obtain ⟨a, ns, k, rfl, _⟩ := h
    rfl
  obtain ⟨a, ns, k, rfl, hS, h0, q⟩ := h
  refine ⟨_, (pss_cons (ps_if (pt_cmpR op_lt (pv 1) (pe_callB call_len_seq (by rfl) T.z_len (by decide +kernel) (pa_cons (pv 0) pa_nil)) (nomark _))
      (pss_one (ps_ret (pe_ix ix_list (pv 0) (pv 1) (fun _ _ => rfl))))
      pss_nil)
    (pss_one (ps_ret pe_int))), ?_⟩
  refine ⟨_, rfl, _, rfl, a, _, rfl, .inl hS, _, _, rfl, rfl, _, rfl, ?_⟩
  refine ite2 (fun c => ?_) (fun c => ?_)
  · have c' := of_decide_eq_true c
    rw [List.length_map] at c'
    have hk : k.toNat < ns.length := by omega
    have e : atI (ns.map V.int) k = some (.int (ns.getD k.toNat 0)) := at_of (j := k.toNat) (by omega) (by rw [List.getElem?_map, List.getElem?_eq_getElem hk, List.getD_eq_getElem?_getD, List.getElem?_eq_getElem hk] <;> rfl)
    exact ⟨_, rfl, _, rfl, a, _, _, _, rfl, rfl, hS, e, q⟩
  · have c' := of_decide_eq_false (Bool.eq_false_iff.mpr c)
    rw [List.length_map] at c'
    have e : ns.getD k.toNat 0 = 0 := by rw [List.getD_eq_getElem?_getD, List.getElem?_eq_none (by omega)] <;> rfl
    rw [e] at q
    exact q
theorem ok_row (T : Txt K mg file) : FnOk P w K mg base CX0 1 T.a_law_row T.fd_law_row ["cell", "count", "size"] spRow := by
  refine T.F_law_row.ok sc_law_row (fun vs H Q E h => ?_) (fun cdv A outer s H vs Q E hr h => ?_)
  · obtain ⟨c, n, z, rfl, _⟩ := h
    rfl
  obtain ⟨cell, count, size, rfl, c0, c1, s0, s1, q⟩ := h
  refine ⟨_, (pss_cons (ps_set (i := 3) sc_law_row.nd rfl (Or.inl rfl) (pv 0))
    (pss_cons (ps_set (i := 4) sc_law_row.nd rfl (Or.inl rfl) (pe_lst pa_nil))
    (pss_cons (ps_for PassesOwn.never rfl (pi_range1 (by rfl) T.z_range (pa_cons (pv 1) pa_nil)) (pg_name (i := 5) sc_law_row.nd rfl (Or.inl rfl))
      (pss_one (ps_if (pt_cmpR op_ge (pv 0) (pe_op op_pow pe_int pe_int) (nomark _))
      (pss_cons (ps_expr (pe_bm PySem.F.plainAttrs_list PySem.F.slot_list_append PySem.F.type_list_append mt_append (pv 4) (pa_cons (pe_op op_mod (pe_callTy call_int1 (by rfl) T.z_int (by decide +kernel) (pa_cons (pv 3) pa_nil)) (pv 2)) pa_nil)))
    (pss_one (ps_set (i := 3) sc_law_row.nd rfl (Or.inl rfl) (pe_op op_fdivW (pv 3) (pv 2)))))
      (pss_cons (ps_set (i := 3) sc_law_row.nd rfl (Or.inl rfl) (pe_op op_mod (pe_op op_add (pe_op op_mul (pv 3) pe_int) pe_int) pe_int))
    (pss_one (ps_expr (pe_bm PySem.F.plainAttrs_list PySem.F.slot_list_append PySem.F.type_list_append mt_append (pv 4) (pa_cons (pe_op op_mod (pe_op op_mod (pe_callTy call_int1 (by rfl) T.z_int (by decide +kernel) (pa_cons (pe_op op_add (pe_op op_mul (pv 3) pe_int) (pe_op op_mul (pv 5) pe_int)) pa_nil)) pe_int) (pv 2)) pa_nil))))))))
    (pss_one (ps_ret (pv 4)))))), ?_⟩
  refine ⟨_, rfl, (by show 0 ≤ sizeLine; decide), fun l hl => ?_⟩
  refine ⟨_, rfl, _, rfl, by omega, by omega, for_range (lo := 0) (n := count.toNat) (fun i σ H' => ∃ (st : Int) (ns : List Int) (kV : Option V), σ = [some (.int cell), some (.int count), some (.int size), some (.int st), some (.ref l), kV] ∧
    Same H H' ∧ H' l = some (.lst (ns.map V.int)) ∧ ns.length = i ∧ ∀ x ∈ ns, 0 ≤ x ∧ x < size) ⟨cell, [], none, rfl, same_new hl _, upd_same, rfl, fun x hx => nomatch hx⟩ ?_ ?_⟩
  · rintro i σ H' hi ⟨st, ns, kV, rfl, m, hL, hn, hb⟩
    have big : ns.length < sizeLine := small1000 (by omega)
    have nl : ∀ b o, H b = some o → b ≠ l := fun b o e => ne_of_none e hl
    have fin : ∀ (st' y : Int) (H2 : Hp), 0 ≤ y → y < size → H2 = upd H' l (.lst (ns.map V.int ++ [.int y])) → ∃ (st'' : Int) (ns' : List Int) (kV : Option V), ([some (.int cell), some (.int count), some (.int size), some (.int st'), some (.ref l), some (.int (0 + (i : Int)))] : List (Option V)) =
        [some (.int cell), some (.int count), some (.int size), some (.int st''), some (.ref l), kV] ∧ Same H H2 ∧ H2 l = some (.lst (ns'.map V.int)) ∧ ns'.length = i + 1 ∧ ∀ x ∈ ns', 0 ≤ x ∧ x < size := by
      intro st' y H2 h0 h1 e
      subst e
      refine ⟨st', ns ++ [y], _, rfl, fun b o z => by rw [upd_ne (nl b o z)]; exact m b o z, by rw [upd_same, List.map_append]; all_goals rfl, by rw [List.length_append, hn]; all_goals rfl, fun x hx => ?_⟩
      rcases List.mem_append.mp hx with z | z
      · exact hb x z
      · rw [List.mem_singleton.mp z]
        exact ⟨h0, h1⟩
    refine ⟨_, rfl, _, _, rfl, rfl, ⟨by decide, by decide, by decide⟩, _, _, rfl, rfl, _, rfl, ?_⟩
    refine ite2 (fun c => ?_) (fun c => ?_)
    · refine ⟨_, rfl, .inl ⟨rfl, _, SqL.of hL⟩, _, rfl, .inl ⟨_, rfl, _, rfl, _, _, rfl, rfl, s0, l, _, _, rfl, rfl, hL, (by rw [List.length_map]; exact big), ?_⟩⟩
      refine ⟨_, rfl, _, rfl, _, _, rfl, rfl, wide_div s0 s1 (by decide) (by decide), ?_⟩
      exact fin _ _ _ (Int.emod_nonneg _ (by omega)) (Int.emod_lt_of_pos _ s0) rfl
    · refine ⟨_, rfl, _, _, rfl, rfl, .inr ⟨by decide, by decide⟩, _, _, rfl, rfl, _, _, rfl, rfl, (by show (0 : Int) < 2147483647; decide), ?_⟩
      refine ⟨_, rfl, .inl ⟨rfl, _, SqL.of hL⟩, _, rfl, _, _, rfl, rfl, .inr ⟨by decide, by decide⟩, _, rfl, _, _, rfl, rfl, .inr ⟨by decide, by decide⟩, _, _, rfl, rfl, .inl ⟨_, rfl, ?_⟩⟩
      refine ⟨_, _, rfl, rfl, (by show (0 : Int) < 2147483647; decide), _, rfl, _, _, rfl, rfl, s0, l, _, _, rfl, rfl, hL, (by rw [List.length_map]; exact big), ?_⟩
      exact fin _ _ _ (Int.emod_nonneg _ (by omega)) (Int.emod_lt_of_pos _ s0) rfl
  · rintro σ H' ⟨st, ns, kV, rfl, m, hL, hn, hb⟩
    exact ⟨_, rfl, q l ns H' m hL hn hb⟩
theorem ok_sight_step (T : Txt K mg file) (k : Nat) (sp0 : Sp) (G_law_sight : FnOk P w K mg base CX0 (k + 1) T.a_law_sight T.fd_law_sight ["cell"] sp0) (hsp : ∀ j, k = j + 1 → ∀ vs H Q E, spSight K j vs H Q E → sp0 vs H Q E) :
    FnOk P w K mg base CX0 (k + 2) T.a_law_sight T.fd_law_sight ["cell"] (spSight K k) := by
  refine T.F_law_sight.ok sc_law_sight (fun vs H Q E h => ?_) (fun cdv A outer s H vs Q E hr h => ?_)
  · obtain ⟨c, rfl, _⟩ := h
    rfl
  obtain ⟨c, rfl, c0, c1, q⟩ := h
  refine ⟨_, (pss_cons (ps_set (i := 1) sc_law_sight.nd rfl (Or.inl rfl) (pe_op op_mod (pe_callTy call_int1 (by rfl) T.z_int (by decide +kernel) (pa_cons (pv 0) pa_nil)) pe_int))
    (pss_cons (ps_set (i := 2) sc_law_sight.nd rfl (Or.inl rfl) (pe_op op_fdivW (pe_callTy call_int1 (by rfl) T.z_int (by decide +kernel) (pa_cons (pv 0) pa_nil)) pe_int))
    (pss_cons (ps_if (pt_cmpR op_lt (pv 1) pe_int (nomark _))
      (pss_one (ps_ret (pe_tup (pa_cons (pe_ix ix_tup (pe_tup (pa_cons pe_str (pa_cons pe_str (pa_cons pe_str pa_nil)))) (pe_op op_mod (pv 2) pe_int) (fun _ _ => rfl)) pa_nil))))
      pss_nil)
    (pss_cons (ps_if (pt_cmpR op_eq (pv 1) pe_int (nomark _))
      (pss_cons (ps_set (i := 3) sc_law_sight.nd rfl (Or.inl rfl) (pe_ix ix_tup (pe_tup (pa_cons pe_str (pa_cons pe_str (pa_cons pe_str (pa_cons pe_str (pa_cons pe_str (pa_cons pe_str (pa_cons pe_str pa_nil)))))))) (pe_op op_mod (pe_op op_fdivW (pv 2) pe_int) pe_int) (fun _ _ => rfl)))
    (pss_cons (ps_set (i := 4) sc_law_sight.nd rfl (Or.inl rfl) (pe_tup (pa_cons (pe_ix ix_tup (pe_tup (pa_cons pe_str (pa_cons pe_str (pa_cons pe_str pa_nil)))) (pe_op op_mod (pv 2) pe_int) (fun _ _ => rfl)) pa_nil)))
    (pss_cons (ps_if (pt_cmpR op_eq (pe_op op_mod (pe_op op_fdivW (pv 2) pe_int) pe_int) pe_int (nomark _))
      (pss_one (ps_ret (pe_tup (pa_cons (pv 3) (pa_cons (pe_call G_law_sight (hr.mono (by omega)) rfl T.g_law_sight T.k_law_sight T.b_law_sight .nil pass0 (pa_cons (pe_op op_fdivW (pv 2) pe_int) pa_nil)) (pa_cons (pv 4) pa_nil))))))
      pss_nil)
    (pss_cons (ps_if (pt_cmpR op_eq (pe_op op_mod (pe_op op_fdivW (pv 2) pe_int) pe_int) pe_int (nomark _))
      (pss_one (ps_ret (pe_tup (pa_cons (pv 3) (pa_cons (pv 4) (pa_cons (pe_call G_law_sight (hr.mono (by omega)) rfl T.g_law_sight T.k_law_sight T.b_law_sight .nil pass0 (pa_cons (pe_op op_fdivW (pv 2) pe_int) pa_nil)) pa_nil))))))
      pss_nil)
    (pss_one (ps_ret (pe_tup (pa_cons (pv 3) (pa_cons (pv 4) (pa_cons (pe_tup (pa_cons pe_str (pa_cons (pe_op op_mod (pe_op op_fdivW (pv 2) pe_int) pe_int) pa_nil))) pa_nil))))))))))
      pss_nil)
    (pss_one (ps_ret (pe_tup (pa_cons pe_str (pa_cons (pe_ix ix_tup (pe_tup (pa_cons (pe_op op_mod (pv 2) pe_int) (pa_cons (pe_op op_mod (pv 2) pe_int) (pa_cons (pe_op op_sub pe_int (pe_op op_mod (pv 2) pe_int)) pa_nil)))) (pe_op op_mod (pe_op op_fdivW (pv 2) pe_int) pe_int) (fun _ _ => rfl)) pa_nil))))))))), ?_⟩
  have one : (1 : Nat) ≤ sizeLine := by decide
  have two : (2 : Nat) ≤ sizeLine := by decide
  have three : (3 : Nat) ≤ sizeLine := by decide
  have seven : (7 : Nat) ≤ sizeLine := by decide
  refine ⟨_, rfl, .inl ⟨_, rfl, _, _, rfl, rfl, (by show (0 : Int) < 5; decide), ?_⟩⟩
  refine ⟨_, rfl, .inl ⟨_, rfl, _, _, rfl, rfl, ⟨by decide, by decide⟩, ?_⟩⟩
  dsimp only
  have hx := sB_le k
  have hr0 : 0 ≤ c / 5 := by omega
  obtain ⟨x, hx1, ex⟩ := pick_knw (r := c / 5)
  refine ⟨_, rfl, _, _, rfl, rfl, _, rfl, ite2 (fun _ => ?_) (fun _ => ?_)⟩
  · refine ⟨three, fun p hp => ?_⟩
    have m1 := same_new hp (.tup [.str "last", .str "made", .str "kept"])
    refine ⟨_, rfl, _, _, rfl, rfl, (by show (0 : Int) < 3; decide), p, _, _, _, rfl, rfl, SqT.of upd_same, ex, one, fun p2 hp2 => ?_⟩
    refine q _ (.key x) _ (m1.trans (same_new hp2 _)) ?_ (decide_eq_true hx1)
    exact dp_tup hp2 (.cons (.str _) .nil)
  refine ⟨_, rfl, rfl, _, rfl, ite2 (fun _ => ?_) (fun _ => ?_)⟩
  rotate_left
  · refine ⟨_, rfl, _, _, rfl, rfl, (by show (0 : Int) < 3; decide), _, rfl, _, _, rfl, rfl, (by show (0 : Int) < 3; decide), _, rfl, _, _, rfl, rfl, (by show (0 : Int) < 3; decide), _, _, rfl, rfl, three, fun p hp => ?_⟩
    obtain ⟨y, hy, ey⟩ := pick_disp (vs := [.int (c / 5 % 3), .int (c / 5 % 3), .int (65535 - c / 5 % 3)]) (r := c / 5 / 3) (n := 3) rfl (by decide)
    have m1 := same_new hp (.tup [.int (c / 5 % 3), .int (c / 5 % 3), .int (65535 - c / 5 % 3)])
    have hy' : ∃ n : Int, y = .int n ∧ 0 ≤ n ∧ n ≤ 65535 := by
      have b1 : 0 ≤ c / 5 % 3 := Int.emod_nonneg _ (by decide)
      have b2 : c / 5 % 3 < 3 := Int.emod_lt_of_pos _ (by decide)
      simp only [List.mem_cons, List.not_mem_nil, or_false] at hy
      rcases hy with rfl | rfl | rfl
      · exact ⟨_, rfl, b1, by omega⟩
      · exact ⟨_, rfl, b1, by omega⟩
      · exact ⟨_, rfl, by omega, by omega⟩
    obtain ⟨n, rfl, n0, n1⟩ := hy'
    refine ⟨_, rfl, _, _, rfl, rfl, ⟨by decide, by decide⟩, _, _, rfl, rfl, (by show (0 : Int) < 3; decide), p, _, _, _, rfl, rfl, SqT.of upd_same, ey, two, fun p2 hp2 => ?_⟩
    refine q _ (.num n) _ (m1.trans (same_new hp2 _)) ?_ (decide_eq_true ⟨n0, n1⟩)
    exact dp_tup hp2 (.cons (.str _) (.cons (.int _) .nil))
  refine ⟨seven, fun p hp => ?_⟩
  have m1 := same_new hp (.tup [.str "=", .str "<", .str "+", .str "mod", .str "-", .str "*", .str "/"])
  obtain ⟨o, ho, eo⟩ := pick_sgn (r := c / 5 / 3)
  refine ⟨_, rfl, _, _, rfl, rfl, ⟨by decide, by decide⟩, _, _, rfl, rfl, (by show (0 : Int) < 7; decide), p, _, _, _, rfl, rfl, SqT.of upd_same, eo, ?_⟩
  refine ⟨three, fun p2 hp2 => ?_⟩
  have m2 := m1.trans (same_new hp2 (.tup [.str "last", .str "made", .str "kept"]))
  refine ⟨_, rfl, _, _, rfl, rfl, (by show (0 : Int) < 3; decide), p2, _, _, _, rfl, rfl, SqT.of upd_same, ex, one, fun p3 hp3 => ?_⟩
  have m3 := m2.trans (same_new hp3 (.tup [.str x]))
  have d3 : Dp K (upd (upd (upd H p (.tup [.str "=", .str "<", .str "+", .str "mod", .str "-", .str "*", .str "/"])) p2 (.tup [.str "last", .str "made", .str "kept"])) p3 (.tup [.str x])) (.ref p3) (TX.key x).d := dp_tup hp3 (.cons (.str _) .nil)
  revert m3 d3
  clear m2 m1
  generalize upd (upd (upd H p (.tup [.str "=", .str "<", .str "+", .str "mod", .str "-", .str "*", .str "/"])) p2 (.tup [.str "last", .str "made", .str "kept"])) p3 (.tup [.str x]) = H3
  intro m3 d3
  have gx : ∀ n, tGood (n + 1) (.key x) = true := fun n => decide_eq_true hx1
  have go := sgn_ops o ho
  have mkop : ∀ (a b : TX) (n : Nat), tGood n a = true → tGood n b = true → tGood (n + 1) (.op o a b) = true := fun a b n ha hb => by
    unfold tGood
    rw [decide_eq_true go, ha, hb]
    rfl
  refine ⟨_, rfl, _, _, rfl, rfl, ⟨by decide, by decide⟩, _, _, rfl, rfl, (by show (0 : Int) < 3; decide), rfl, _, rfl, ite2 (fun z => ?_) (fun _ => ?_)⟩
  · cases k with
    | zero =>
      have z := of_decide_eq_true z
      injection z with z
      have c1 : c < 11 := c1
      omega
    | succ j =>
      have hn := sB_next c0 c1
      refine ⟨_, rfl, _, rfl, _, _, rfl, rfl, ⟨by decide, by decide⟩, ?_⟩
      refine hsp j rfl _ _ _ _ ⟨_, rfl, hn.1, hn.2, fun v e H4 m4 d4 g4 => ?_⟩
      refine ⟨_, rfl, three, fun p5 hp5 => ?_⟩
      refine q _ (.op o e (.key x)) _ (m3.trans (m4.trans (same_new hp5 _))) ?_ (mkop _ _ _ g4 (gx _))
      exact dp_tup hp5 (.cons (.str _) (.cons d4 (.cons (dp_mono m4 _ _ d3) .nil)))
  refine ⟨_, rfl, _, _, rfl, rfl, ⟨by decide, by decide⟩, _, _, rfl, rfl, (by show (0 : Int) < 3; decide), rfl, _, rfl, ite2 (fun z => ?_) (fun _ => ?_)⟩
  · cases k with
    | zero =>
      have z := of_decide_eq_true z
      injection z with z
      have c1 : c < 11 := c1
      omega
    | succ j =>
      have hn := sB_next c0 c1
      refine ⟨_, rfl, _, rfl, _, rfl, _, _, rfl, rfl, ⟨by decide, by decide⟩, ?_⟩
      refine hsp j rfl _ _ _ _ ⟨_, rfl, hn.1, hn.2, fun v e H4 m4 d4 g4 => ?_⟩
      refine ⟨three, fun p5 hp5 => ?_⟩
      refine q _ (.op o (.key x) e) _ (m3.trans (m4.trans (same_new hp5 _))) ?_ (mkop _ _ _ (gx _) g4)
      exact dp_tup hp5 (.cons (.str _) (.cons (dp_mono m4 _ _ d3) (.cons d4 .nil)))
  refine ⟨_, rfl, _, rfl, _, rfl, _, _, rfl, rfl, ⟨by decide, by decide⟩, _, _, rfl, rfl, (by show (0 : Int) < 4; decide), two, fun p4 hp4 => ?_⟩
  have m4 := same_new hp4 (.tup [.str "number", .int (c / 5 / 63 % 4)])
  have n0 : 0 ≤ c / 5 / 63 % 4 ∧ c / 5 / 63 % 4 ≤ 65535 := by omega
  refine ⟨three, fun p5 hp5 => ?_⟩
  refine q _ (.op o (.key x) (.num (c / 5 / 63 % 4))) _ (m3.trans (m4.trans (same_new hp5 _))) ?_ (mkop _ _ _ (gx _) (decide_eq_true n0))
  exact dp_tup hp5 (.cons (.str _) (.cons (dp_mono m4 _ _ d3) (.cons (dp_tup hp4 (.cons (.str _) (.cons (.int _) .nil))) .nil)))
theorem ok_sight (T : Txt K mg file) : ∀ k : Nat, FnOk P w K mg base CX0 (k + 2) T.a_law_sight T.fd_law_sight ["cell"] (spSight K k)
  | 0 => ok_sight_step T 0 (fun _ _ _ _ => False) ⟨fun _ _ _ _ h => h.elim, fun _ _ _ _ _ _ _ _ _ _ _ _ _ h => h.elim⟩ (fun j h => absurd h (by omega))
  | k + 1 => ok_sight_step T (k + 1) _ (ok_sight T k) (fun j h vs H Q E q => by
      obtain rfl : k = j := by omega
      exact q)
end
end Toy
set_option Elab.async false
set_option linter.all false
set_option maxRecDepth 100000
set_option maxHeartbeats 4000000
namespace Toy
open PySem L2 NdefX Gm Pz
open Mine hiding same_new
structure NamesAt (K : PySem.W.Frag) (H : Hp) (pa : Addr) (vs : List V) (names : List Str) : Prop where
  l : SqL K H pa vs
  d : DpAll K H vs (names.map fun n => PyData.tuple [.str n])
  n0 : 0 < names.length
  ok : ∀ n ∈ names, isName n = true
theorem NamesAt.same {K : PySem.W.Frag} {H H' : Hp} {pa : Addr} {vs : List V} {names : List Str} (h : NamesAt K H pa vs names) (s : Same H H') : NamesAt K H' pa vs names := ⟨s.seq h.l, dp_monoAll s _ _ h.d, h.n0, h.ok⟩
theorem NamesAt.pick {K : PySem.W.Frag} {H : Hp} {pa : Addr} {vs : List V} {names : List Str} (h : NamesAt K H pa vs names) (r : Int) : ∃ t n, n ∈ names ∧ atI vs (r % ((vs.length : Nat) : Int)) = some (.ref t) ∧ SqT K H t [.str n] ∧ (0 : Int) < ((vs.length : Nat) : Int) := by
  have lv : vs.length = names.length := (DpAll.len h.d).trans (List.length_map _)
  have hp : (0 : Int) < ((vs.length : Nat) : Int) := by have := h.n0; omega
  have e0 := Int.emod_nonneg r (b := ((vs.length : Nat) : Int)) (by omega)
  have e1 := Int.emod_lt_of_pos r hp
  obtain ⟨j, hj⟩ : ∃ j : Nat, r % ((vs.length : Nat) : Int) = (j : Int) := ⟨(r % ((vs.length : Nat) : Int)).toNat, by omega⟩
  have hj2 : j < names.length := by omega
  obtain ⟨v, ev, dv⟩ := DpAll.get h.d (i := j) (d := PyData.tuple [.str names[j]]) (by rw [List.getElem?_map, List.getElem?_eq_getElem hj2]; rfl)
  cases dv with
  | @tup t xs ds hs ha =>
  cases ha with
  | cons h1 h2 =>
  cases h1
  cases h2
  exact ⟨t, names[j], List.getElem_mem _, by rw [hj]; exact atI_nat ev, hs, hp⟩
def spLRule (K : PySem.W.Frag) : Sp := fun vs H Q _ => ∃ (c : Int) (pa : Addr) (nv : List V) (names : List Str), vs = [.int c, .ref pa] ∧ NamesAt K H pa nv names ∧ ∀ (v : V) (r : Ru) (H' : Hp), Same H H' → Dp K H' v r.d → RuOk 4 r → Q v H'
def spLAll (K : PySem.W.Frag) : Sp := fun vs H Q _ => ∃ (a : Addr) (ys : List V) (rs : List Ru), vs = [.ref a] ∧ SqL K H a ys ∧ DpAll K H ys (rs.map Ru.d) ∧ (∀ r ∈ rs, RuOk 8 r) ∧ (rsWords rs).length ≤ 1000000 ∧ NewL H Q (rsWords rs)
def strange : List Str := ["?", "65536", "zzzzzzzzzzzzz", "00", "007", "100000", "a_b", "aB", "Z", "a-b", ">", "a\nb", "\n", "\tx", "1\n", "-1", "+1", "1.0", "==", "#", "\t", "a\t", "0x1", "1_0", "mod\n"]
def oddW (w : Str) : Bool := oddB w && !(signs w).any (fun c => decide (c = 32)) && decide (w.length ≤ 20)
theorem strange_odd : ∀ x ∈ strange, oddW x = true := by decide +kernel
theorem empty_odd : oddW ("" : Str) = true := by decide +kernel
def spStr : Sp := fun vs H Q _ => ∃ c : Int, vs = [.int c] ∧ ∀ (p : Addr) (xs : List Str) (H' : Hp), Same H H' → H' p = some (.lst (xs.map V.str)) → (∀ x ∈ xs, oddW x = true) → Q (.ref p) H'
theorem cut_init (xs : List V) (y : V) : cutV (xs ++ [y]) none (some (-1)) = xs := by
  have e1 : HT.sIx (xs ++ [y]).length 0 none = 0 := rfl
  have e2 : HT.sIx (xs ++ [y]).length (xs ++ [y]).length (some (-1)) = xs.length := by
    have : ((-1 : Int) < 0) := by decide
    simp [HT.sIx]
    omega
  unfold cutV
  rw [e1, e2]
  simp
section
variable {P : Program} {w : World} {K : PySem.W.Frag} {mg : Str → Option Value} {base : Heap} {file : Str}
theorem ok_lrule (T : Txt K mg file) : FnOk P w K mg base CX0 5 T.a_law_rule T.fd_law_rule ["cell", "procs"] (spLRule K) := by
  have G_law_row : FnOk P w K mg base CX0 1 T.a_law_row T.fd_law_row ["cell", "count", "size"] spRow := ok_row T
  have G_law_sight : FnOk P w K mg base CX0 4 T.a_law_sight T.fd_law_sight ["cell"] (spSight K 2) := ok_sight T 2
  refine T.F_law_rule.ok sc_law_rule (fun vs H Q E h => ?_) (fun cdv A outer s H vs Q E hr h => ?_)
  · obtain ⟨c, pa, nv, names, rfl, _⟩ := h
    rfl
  obtain ⟨c, pa, nv, names, rfl, hN, q⟩ := h
  refine ⟨_, (pss_cons (ps_set (i := 2) sc_law_rule.nd rfl (Or.inl rfl) (pe_call G_law_row (hr.mono (by decide)) rfl T.g_law_row T.k_law_row T.b_law_row .nil pass0 (pa_cons (pv 0) (pa_cons pe_int (pa_cons (pe_op op_pow pe_int pe_int) pa_nil)))))
    (pss_cons (ps_set (i := 3) sc_law_rule.nd rfl (Or.inl rfl) (pe_tup (pa_cons pe_str (pa_cons (pe_ix ix_tup (pe_ix ix_list (pv 1) (pe_op op_mod (pe_op op_fdivW (pe_ix ix_list (pv 2) pe_int (fun _ _ => rfl)) pe_int) (pe_callB call_len_seq (by rfl) T.z_len (by decide +kernel) (pa_cons (pv 1) pa_nil))) (fun _ _ => rfl)) pe_int (fun _ _ => rfl)) (pa_cons (pe_call G_law_sight (hr.mono (by decide)) rfl T.g_law_sight T.k_law_sight T.b_law_sight .nil pass0 (pa_cons (pe_ix ix_list (pv 2) pe_int (fun _ _ => rfl)) pa_nil)) pa_nil)))))
    (pss_cons (ps_if (pt_cmpR op_eq (pe_op op_mod (pe_ix ix_list (pv 2) pe_int (fun _ _ => rfl)) pe_int) pe_int (nomark _))
      (pss_one (ps_set (i := 3) sc_law_rule.nd rfl (Or.inl rfl) (pe_tup (pa_cons pe_str (pa_cons (pe_call G_law_sight (hr.mono (by decide)) rfl T.g_law_sight T.k_law_sight T.b_law_sight .nil pass0 (pa_cons (pe_ix ix_list (pv 2) pe_int (fun _ _ => rfl)) pa_nil)) pa_nil)))))
      pss_nil)
    (pss_one (ps_ret (pe_tup (pa_cons (pe_call G_law_sight (hr.mono (by decide)) rfl T.g_law_sight T.k_law_sight T.b_law_sight .nil pass0 (pa_cons (pe_ix ix_list (pv 2) pe_int (fun _ _ => rfl)) pa_nil)) (pa_cons (pv 3) (pa_cons (pe_call G_law_sight (hr.mono (by decide)) rfl T.g_law_sight T.k_law_sight T.b_law_sight .nil pass0 (pa_cons (pe_ix ix_list (pv 2) pe_int (fun _ _ => rfl)) pa_nil)) pa_nil))))))))), ?_⟩
  have two : (2 : Nat) ≤ sizeLine := by decide
  have three : (3 : Nat) ≤ sizeLine := by decide
  refine ⟨_, rfl, _, _, rfl, rfl, ⟨by decide, by decide, by decide⟩, _, _, _, rfl, by decide, by decide, by decide, by decide, fun dl ds H1 m1 hd1 dlen db => ?_⟩
  have hdl : ds.length = 6 := dlen
  have db : ∀ x ∈ ds, 0 ≤ x ∧ x < 1000000 := db
  have dig : ∀ i : Int, 0 ≤ i → i < 6 → ∃ d ∈ ds, atI (ds.map V.int) i = some (.int d) := fun i h0 h1 => dig_at h0 (by rw [hdl]; exact h1)
  obtain ⟨d0, hd0, e0⟩ := dig 0 (by decide) (by decide)
  obtain ⟨d1, hd1', e1⟩ := dig 1 (by decide) (by decide)
  obtain ⟨d2, hd2', e2⟩ := dig 2 (by decide) (by decide)
  obtain ⟨d3, hd3', e3⟩ := dig 3 (by decide) (by decide)
  have hN1 := hN.same m1
  obtain ⟨t, n, hn, et, ht, hpos⟩ := hN1.pick (d0 / 4)
  have hl1 : ∀ {H' : Hp}, Same H1 H' → SqL K H' dl (ds.map V.int) := fun m => SqL.of (m _ _ hd1)
  refine ⟨_, rfl, _, rfl, dl, _, _, _, rfl, rfl, hl1 (Same.refl _), e0, _, _, rfl, rfl, ⟨by decide, by decide⟩, _, rfl, pa, _, rfl, .inl hN1.l, _, _, rfl, rfl, hpos, pa, _, _, _, rfl, rfl, hN1.l, et, t, _, 0, _, rfl, rfl, ht, atI_nat (j := 0) rfl, ?_⟩
  refine ⟨_, rfl, dl, _, _, _, rfl, rfl, hl1 (Same.refl _), e1, _, rfl, (db _ hd1').1, (db _ hd1').2, fun v1 x1 H2 m2 dv1 g1 => ?_⟩
  refine ⟨three, fun p3 hp3 => ?_⟩
  have m3 := m2.trans (same_new hp3 (.tup [.str "ask", .str n, v1]))
  have dd : Dp K (upd H2 p3 (.tup [.str "ask", .str n, v1])) (.ref p3) (.tuple [.str "ask", .str n, x1.d]) := dp_tup hp3 (.cons (.str _) (.cons (.str _) (.cons dv1 .nil)))
  revert m3 dd
  generalize upd H2 p3 (.tup [.str "ask", .str n, v1]) = H3
  intro m3 dd
  refine ⟨_, rfl, dl, _, _, _, rfl, rfl, hl1 m3, e0, _, _, rfl, rfl, (by show (0 : Int) < 4; decide), rfl, _, rfl, ?_⟩
  refine if_rest (fun σ H4 => ∃ (x : Ru) (vd : V), σ = [some (.int c), some (.ref pa), some (.ref dl), some vd] ∧ Same H1 H4 ∧ Dp K H4 vd x.deed ∧ tGood 4 x.e = true ∧ ∀ p, x.a = some p → isName p = true) ?_ ?_ ?_
  · rintro σ H4 ⟨x, vd, rfl, m4, d4, g4, a4⟩
    refine ⟨_, rfl, dl, _, _, _, rfl, rfl, hl1 m4, e2, _, rfl, (db _ hd2').1, (db _ hd2').2, fun v5 x5 H5 m5 dv5 g5 => ?_⟩
    refine ⟨_, rfl, _, rfl, dl, _, _, _, rfl, rfl, hl1 (m4.trans m5), e3, _, rfl, (db _ hd3').1, (db _ hd3').2, fun v6 x6 H6 m6 dv6 g6 => ?_⟩
    refine ⟨three, fun p7 hp7 => ?_⟩
    refine q _ ⟨x5, x.a, x.e, x6⟩ _ (m1.trans (m4.trans (m5.trans (m6.trans (same_new hp7 _))))) ?_ ⟨g5, g4, g6, a4⟩
    exact dp_tup hp7 (.cons (dp_mono m6 _ _ dv5) (.cons (dp_mono (m5.trans m6) _ _ d4) (.cons dv6 .nil)))
  · intro _ rest
    refine ⟨_, rfl, dl, _, _, _, rfl, rfl, hl1 m3, e1, _, rfl, (db _ hd1').1, (db _ hd1').2, fun v5 x5 H5 m5 dv5 g5 => ?_⟩
    refine ⟨two, fun p7 hp7 => ?_⟩
    refine rest _ _ ⟨⟨x5, none, x5, x5⟩, _, rfl, m3.trans (m5.trans (same_new hp7 _)), ?_, g5, fun p hp => by cases hp⟩
    exact dp_tup hp7 (.cons (.str _) (.cons dv5 .nil))
  · intro _
    exact ⟨⟨x1, some n, x1, x1⟩, _, rfl, m3, dd, g1, fun p hp => by cases hp; exact hN.ok n hn⟩
theorem ok_lw_step (T : Txt K mg file) (k : Nat) (sp0 : Sp) (G_law_words : FnOk P w K mg base CX0 (k + 1) T.a_law_words T.fd_law_words ["sight"] sp0) (hsp : ∀ j, k = j + 1 → ∀ vs H Q E, spTW K j vs H Q E → sp0 vs H Q E) :
    FnOk P w K mg base CX0 (k + 2) T.a_law_words T.fd_law_words ["sight"] (spTW K k) := by
  refine T.F_law_words.ok sc_law_words (fun vs H Q E h => ?_) (fun cdv A outer s H vs Q E hr h => ?_)
  · obtain ⟨v, e, rfl, _⟩ := h
    rfl
  obtain ⟨v, e, rfl, d, g, hl, q⟩ := h
  refine ⟨_, (pss_cons (ps_if (pt_cmpR op_eq (pe_ix ix_tup (pv 0) pe_int (fun _ _ => rfl)) pe_str (nomark _))
      (pss_one (ps_ret (pe_lst (pa_cons (pe_callTy call_str_int (by rfl) T.z_str (by decide +kernel) (pa_cons (pe_ix ix_tup (pv 0) pe_int (fun _ _ => rfl)) pa_nil)) pa_nil))))
      pss_nil)
    (pss_cons (ps_if (pt_cmpR op_eq (pe_callB call_len_seq (by rfl) T.z_len (by decide +kernel) (pa_cons (pv 0) pa_nil)) pe_int (nomark _))
      (pss_one (ps_ret (pe_lst (pa_cons (pe_ix ix_tup (pv 0) pe_int (fun _ _ => rfl)) pa_nil))))
      pss_nil)
    (pss_one (ps_ret (pe_op op_cat (pe_op op_cat (pe_lst (pa_cons (pe_ix ix_tup (pv 0) pe_int (fun _ _ => rfl)) pa_nil)) (pe_call G_law_words (hr.mono (by omega)) rfl T.g_law_words T.k_law_words T.b_law_words .nil pass0 (pa_cons (pe_ix ix_tup (pv 0) pe_int (fun _ _ => rfl)) pa_nil))) (pe_call G_law_words (hr.mono (by omega)) rfl T.g_law_words T.k_law_words T.b_law_words .nil pass0 (pa_cons (pe_ix ix_tup (pv 0) pe_int (fun _ _ => rfl)) pa_nil))))))), ?_⟩
  have one : (1 : Nat) ≤ sizeLine := by decide
  cases k with
  | zero => cases e <;> (unfold tGood at g; cases g)
  | succ j =>
  have hsp' := hsp j rfl
  cases e with
  | num n =>
    unfold TX.d at d
    cases d with
    | @tup a xs ds hs ha =>
    cases ha with
    | cons h1 h2 =>
    cases h1
    cases h2 with
    | cons h3 h4 =>
    cases h3
    cases h4
    have g' : 0 ≤ n ∧ n ≤ 65535 := by unfold tGood at g; exact of_decide_eq_true g
    refine ⟨_, rfl, a, _, 0, _, rfl, rfl, hs, atI_nat (j := 0) rfl, rfl, _, rfl, ?_⟩
    refine ite2 (fun _ => ?_) (fun z => absurd (by rw [ds_str]; exact decide_eq_true rfl) z)
    refine ⟨_, rfl, a, _, 1, _, rfl, rfl, hs, atI_nat (j := 1) rfl, n, rfl, small_log g'.1 (by omega), one, fun p hp => ?_⟩
    exact q p _ (same_new hp _) hp upd_same
  | key x =>
    unfold TX.d at d
    cases d with
    | @tup a xs ds hs ha =>
    cases ha with
    | cons h1 h2 =>
    cases h1
    cases h2
    have nx : x ≠ "number" := fun z => by
      have gx : x ∈ knw := by unfold tGood at g; exact of_decide_eq_true g
      rw [z] at gx
      exact absurd gx (by decide)
    refine ⟨_, rfl, a, _, 0, _, rfl, rfl, hs, atI_nat (j := 0) rfl, rfl, _, rfl, ?_⟩
    refine ite2 (fun z => absurd z (by rw [ds_str]; rw [decide_eq_false nx]; decide)) (fun _ => ?_)
    refine ⟨_, rfl, a, _, rfl, .inr hs, rfl, _, rfl, ?_⟩
    refine ite2 (fun _ => ?_) (fun z => absurd (by simp) z)
    exact ⟨_, rfl, a, _, 0, _, rfl, rfl, hs, atI_nat (j := 0) rfl, one, fun p hp => q p _ (same_new hp _) hp upd_same⟩
  | op o x y =>
    unfold TX.d at d
    cases d with
    | @tup a xs ds hs ha =>
    cases ha with
    | cons h1 h2 =>
    cases h1
    cases h2 with
    | cons h3 h4 =>
    cases h4 with
    | cons h5 h6 =>
    cases h6
    have g' : o ∈ ops ∧ tGood j x = true ∧ tGood j y = true := by
      unfold tGood at g
      rw [Bool.and_eq_true, Bool.and_eq_true] at g
      exact ⟨of_decide_eq_true g.1.1, g.1.2, g.2⟩
    have n1 : o ≠ "number" := fun z => by rw [z] at g'; exact absurd g'.1 (by decide)
    have el : tWords (.op o x y) = o :: (tWords x ++ tWords y) := rfl
    rw [el] at hl q
    have hx : (tWords x).length ≤ 1000000 := by simp only [List.length_cons, List.length_append] at hl; omega
    have hy : (tWords y).length ≤ 1000000 := by simp only [List.length_cons, List.length_append] at hl; omega
    refine ⟨_, rfl, a, _, 0, _, rfl, rfl, hs, atI_nat (j := 0) rfl, rfl, _, rfl, ?_⟩
    refine ite2 (fun z => absurd z (by rw [ds_str]; rw [decide_eq_false n1]; decide)) (fun _ => ?_)
    refine ⟨_, rfl, a, _, rfl, .inr hs, rfl, _, rfl, ?_⟩
    refine ite2 (fun z => absurd z (by simp)) (fun _ => ?_)
    refine ⟨_, rfl, a, _, 0, _, rfl, rfl, hs, atI_nat (j := 0) rfl, one, fun L0 hL0 => ?_⟩
    have m0 := same_new hL0 (.lst [V.str o])
    refine ⟨_, rfl, a, _, 1, _, rfl, rfl, sqT_mono m0 hs, atI_nat (j := 1) rfl, ?_⟩
    refine hsp' _ _ _ _ ⟨_, x, rfl, dp_mono m0 _ _ h3, g'.2.1, hx, fun L1 H1 m1 hL1 e1 => ?_⟩
    refine ⟨L0, L1, _, _, rfl, rfl, m1 _ _ upd_same, e1, ?_, fun L2 hL2 => ?_⟩
    · simp only [List.length_cons, List.length_nil, List.length_map]
      exact Nat.le_trans (show 0 + 1 + (tWords x).length ≤ 2000000 by omega) (by decide)
    have m2 := same_new hL2 (.lst ([V.str o] ++ (tWords x).map V.str))
    have m02 := (m0.trans m1).trans m2
    refine ⟨_, rfl, a, _, 2, _, rfl, rfl, sqT_mono m02 hs, atI_nat (j := 2) rfl, ?_⟩
    refine hsp' _ _ _ _ ⟨_, y, rfl, dp_mono m02 _ _ h5, g'.2.2, hy, fun L3 H3 m3 hL3 e3 => ?_⟩
    refine ⟨L2, L3, _, _, rfl, rfl, m3 _ _ upd_same, e3, ?_, fun L4 hL4 => ?_⟩
    · simp only [List.length_cons, List.length_nil, List.length_map, List.length_append]
      exact Nat.le_trans (show 0 + 1 + (tWords x).length + (tWords y).length ≤ 2000001 by omega) (by decide)
    refine q L4 _ ((m02.trans m3).trans (same_new hL4 _)) (none_of_same (m02.trans m3) hL4) ?_
    rw [upd_same, List.map_cons, List.map_append]
    rfl
theorem ok_lw (T : Txt K mg file) : ∀ k : Nat, FnOk P w K mg base CX0 (k + 2) T.a_law_words T.fd_law_words ["sight"] (spTW K k)
  | 0 => ok_lw_step T 0 (fun _ _ _ _ => False) ⟨fun _ _ _ _ h => h.elim, fun _ _ _ _ _ _ _ _ _ _ _ _ _ h => h.elim⟩ (fun j h => absurd h (by omega))
  | k + 1 => ok_lw_step T (k + 1) _ (ok_lw T k) (fun j h vs H Q E q => by
      obtain rfl : k = j := by omega
      exact q)
theorem ok_str (T : Txt K mg file) : FnOk P w K mg base CX0 1 T.a_law_strange T.fd_law_strange ["cell"] spStr := by
  refine T.F_law_strange.ok sc_law_strange (fun vs H Q E h => ?_) (fun cdv A outer s H vs Q E hr h => ?_)
  · obtain ⟨c, rfl, _⟩ := h
    rfl
  obtain ⟨c, rfl, q⟩ := h
  refine ⟨_, (pss_cons (ps_set (i := 1) sc_law_strange.nd rfl (Or.inl rfl) (pe_lst (pa_cons pe_str (pa_cons pe_str (pa_cons pe_str (pa_cons pe_str (pa_cons pe_str (pa_cons pe_str (pa_cons pe_str (pa_cons pe_str (pa_cons pe_str (pa_cons pe_str (pa_cons pe_str (pa_cons pe_str (pa_cons pe_str (pa_cons pe_str (pa_cons pe_str pa_nil)))))))))))))))))
    (pss_cons (ps_set (i := 1) sc_law_strange.nd rfl (Or.inl rfl) (pe_op op_cat (pv 1) (pe_lst (pa_cons pe_str (pa_cons pe_str (pa_cons pe_str (pa_cons pe_str (pa_cons pe_str (pa_cons pe_str (pa_cons pe_str (pa_cons pe_str (pa_cons pe_str (pa_cons pe_str pa_nil)))))))))))))
    (pss_cons (ps_set (i := 2) sc_law_strange.nd rfl (Or.inl rfl) (pe_lst (pa_cons pe_str pa_nil)))
    (pss_cons (ps_for PassesOwn.never rfl (pi_range1 (by rfl) T.z_range (pa_cons pe_int pa_nil)) (pg_name (i := 3) sc_law_strange.nd rfl (Or.inl rfl))
      (pss_cons (ps_set (i := 4) sc_law_strange.nd rfl (Or.inl rfl) (pe_ix ix_list (pv 1) (pe_op op_mod (pe_op op_fdivW (pe_callTy call_int1 (by rfl) T.z_int (by decide +kernel) (pa_cons (pv 0) pa_nil)) (pe_op op_add (pe_op op_mul pe_int (pv 3)) pe_int)) (pe_callB call_len_seq (by rfl) T.z_len (by decide +kernel) (pa_cons (pv 1) pa_nil))) (fun _ _ => rfl)))
    (pss_one (ps_expr (pe_bm PySem.F.plainAttrs_list PySem.F.slot_list_append PySem.F.type_list_append mt_append (pv 2) (pa_cons (pv 4) pa_nil))))))
    (pss_one (ps_ret (pv 2))))))), ?_⟩
  refine ⟨by show 15 ≤ sizeLine; decide, fun L0 hL0 => ?_⟩
  refine ⟨_, rfl, by show 10 ≤ sizeLine; decide, fun L1 hL1 => ?_⟩
  have m1 := same_new hL1 (.lst ((["-1", "+1", "1.0", "==", "#", "\t", "a\t", "0x1", "1_0", "mod\n"] : List Str).map V.str))
  refine ⟨L0, L1, _, _, rfl, rfl, m1 _ _ upd_same, upd_same, by show 15 + 10 ≤ sizeLine; decide, fun L2 hL2 => ?_⟩
  have m02 : Same H (upd (upd (upd H L0 (.lst [V.str "?", V.str "65536", V.str "zzzzzzzzzzzzz", V.str "00", V.str "007", V.str "100000", V.str "a_b", V.str "aB", V.str "Z", V.str "a-b", V.str ">", V.str "a\nb", V.str "\n", V.str "\tx", V.str "1\n"])) L1 (.lst [V.str "-1", V.str "+1", V.str "1.0", V.str "==", V.str "#", V.str "\t", V.str "a\t", V.str "0x1", V.str "1_0", V.str "mod\n"])) L2 (.lst ([V.str "?", V.str "65536", V.str "zzzzzzzzzzzzz", V.str "00", V.str "007", V.str "100000", V.str "a_b", V.str "aB", V.str "Z", V.str "a-b", V.str ">", V.str "a\nb", V.str "\n", V.str "\tx", V.str "1\n"] ++ [V.str "-1", V.str "+1", V.str "1.0", V.str "==", V.str "#", V.str "\t", V.str "a\t", V.str "0x1", V.str "1_0", V.str "mod\n"]))) := ((same_new hL0 _).trans m1).trans (same_new hL2 _)
  have e2 : (upd (upd (upd H L0 (.lst [V.str "?", V.str "65536", V.str "zzzzzzzzzzzzz", V.str "00", V.str "007", V.str "100000", V.str "a_b", V.str "aB", V.str "Z", V.str "a-b", V.str ">", V.str "a\nb", V.str "\n", V.str "\tx", V.str "1\n"])) L1 (.lst [V.str "-1", V.str "+1", V.str "1.0", V.str "==", V.str "#", V.str "\t", V.str "a\t", V.str "0x1", V.str "1_0", V.str "mod\n"])) L2 (.lst ([V.str "?", V.str "65536", V.str "zzzzzzzzzzzzz", V.str "00", V.str "007", V.str "100000", V.str "a_b", V.str "aB", V.str "Z", V.str "a-b", V.str ">", V.str "a\nb", V.str "\n", V.str "\tx", V.str "1\n"] ++ [V.str "-1", V.str "+1", V.str "1.0", V.str "==", V.str "#", V.str "\t", V.str "a\t", V.str "0x1", V.str "1_0", V.str "mod\n"]))) L2 = some (.lst (strange.map V.str)) := upd_same
  revert m02 e2
  clear m1
  generalize upd (upd (upd H L0 (.lst [V.str "?", V.str "65536", V.str "zzzzzzzzzzzzz", V.str "00", V.str "007", V.str "100000", V.str "a_b", V.str "aB", V.str "Z", V.str "a-b", V.str ">", V.str "a\nb", V.str "\n", V.str "\tx", V.str "1\n"])) L1 (.lst [V.str "-1", V.str "+1", V.str "1.0", V.str "==", V.str "#", V.str "\t", V.str "a\t", V.str "0x1", V.str "1_0", V.str "mod\n"])) L2 (.lst ([V.str "?", V.str "65536", V.str "zzzzzzzzzzzzz", V.str "00", V.str "007", V.str "100000", V.str "a_b", V.str "aB", V.str "Z", V.str "a-b", V.str ">", V.str "a\nb", V.str "\n", V.str "\tx", V.str "1\n"] ++ [V.str "-1", V.str "+1", V.str "1.0", V.str "==", V.str "#", V.str "\t", V.str "a\t", V.str "0x1", V.str "1_0", V.str "mod\n"])) = H2
  intro m02 e2
  refine ⟨by show 1 ≤ sizeLine; decide, fun L3 hL3 => ?_⟩
  have m3 := same_new hL3 (.lst [V.str ""])
  refine ⟨_, rfl, by decide, by decide, for_range (lo := 0) (n := 3) (fun i σ H' => ∃ (xs : List Str) (y3 y4 : Option V), σ = [some (.int c), some (.ref L2), some (.ref L3), y3, y4] ∧ Same H2 H' ∧ H' L3 = some (.lst (xs.map V.str)) ∧ xs.length = i + 1 ∧ ∀ x ∈ xs, oddW x = true) ⟨[""], none, none, rfl, m3, upd_same, rfl, fun x hx => by rw [List.mem_singleton.mp hx]; exact empty_odd⟩ ?_ ?_⟩
  · rintro i σ H3 hi ⟨xs, y3, y4, rfl, m, e3, hl, hx⟩
    obtain ⟨x, hx1, ex⟩ := pick_mem (xs := strange) (r := c / (27 * (0 + (i : Int)) + 1)) (by decide)
    refine ⟨_, rfl, _, rfl, .inl ⟨_, rfl, _, rfl, _, _, rfl, rfl, .inl ⟨by decide, by decide⟩, _, _, rfl, rfl, _, _, rfl, rfl, ?_, ?_⟩⟩
    · exact wide_div (b := 100) (by omega) (by omega) (by decide) (by decide)
    refine ⟨_, rfl, L2, _, rfl, .inl (SqL.of (m _ _ e2)), _, _, rfl, rfl, (show (0 : Int) < ((strange.map V.str).length : Nat) by decide), L2, _, _, _, rfl, rfl, SqL.of (m _ _ e2), ex, ?_⟩
    refine ⟨_, rfl, .inl ⟨rfl, _, SqL.of e3⟩, _, rfl, L3, _, _, rfl, rfl, e3, ?_, ?_⟩
    · rw [List.length_map, hl]
      exact Nat.lt_of_le_of_lt (show i + 1 ≤ 4 by omega) (by decide)
    refine ⟨xs ++ [x], _, _, rfl, fun b o eb => ?_, ?_, ?_, fun y hy => ?_⟩
    · rw [upd_ne (ne_of_none eb hL3)]
      exact m _ _ eb
    · rw [upd_same, List.map_append]
      rfl
    · rw [List.length_append, hl]
      rfl
    · rcases List.mem_append.mp hy with hy | hy
      · exact hx y hy
      · rw [List.mem_singleton.mp hy]
        exact strange_odd x hx1
  · rintro σ H3 ⟨xs, y3, y4, rfl, m, e3, hl, hx⟩
    exact ⟨_, rfl, q L3 xs H3 (m02.trans m) e3 hx⟩
theorem ok_lall (T : Txt K mg file) : FnOk P w K mg base CX0 11 T.a_law_all T.fd_law_all ["rules"] (spLAll K) := by
  have G_law_words : FnOk P w K mg base CX0 10 T.a_law_words T.fd_law_words ["sight"] (spTW K 8) := ok_lw T 8
  refine T.F_law_all.ok sc_law_all (fun vs H Q E h => ?_) (fun cdv A outer s H vs Q E hr h => ?_)
  · obtain ⟨a, ys, rs, rfl, _⟩ := h
    rfl
  obtain ⟨a, ys, rs, rfl, hs, ha, g, hl, q⟩ := h
  refine ⟨_, (pss_cons (ps_set (i := 1) sc_law_all.nd rfl (Or.inl rfl) (pe_lst pa_nil))
    (pss_cons (ps_for PassesOwn.never rfl (pi_list (pv 0)) (pg_name (i := 2) sc_law_all.nd rfl (Or.inl rfl))
      (pss_one (ps_set (i := 1) sc_law_all.nd rfl (Or.inl rfl) (pe_op op_cat (pe_op op_cat (pe_op op_cat (pe_op op_cat (pe_op op_cat (pv 1) (pe_lst (pa_cons pe_str pa_nil))) (pe_call G_law_words (hr.mono (by decide)) rfl T.g_law_words T.k_law_words T.b_law_words .nil pass0 (pa_cons (pe_ix ix_tup (pv 2) pe_int (fun _ _ => rfl)) pa_nil))) (pe_callTy call_list_of (by rfl) T.z_list (by decide +kernel) (pa_cons (pe_slice (slTB K rfl) (pe_ix ix_tup (pv 2) pe_int (fun _ _ => rfl)) po_none (po_some (pe_un un_neg pe_int))) pa_nil))) (pe_call G_law_words (hr.mono (by decide)) rfl T.g_law_words T.k_law_words T.b_law_words .nil pass0 (pa_cons (pe_ix ix_tup (pe_ix ix_tup (pv 2) pe_int (fun _ _ => rfl)) (pe_un un_neg pe_int) (fun _ _ => rfl)) pa_nil))) (pe_call G_law_words (hr.mono (by decide)) rfl T.g_law_words T.k_law_words T.b_law_words .nil pass0 (pa_cons (pe_ix ix_tup (pv 2) pe_int (fun _ _ => rfl)) pa_nil))))))
    (pss_one (ps_ret (pv 1))))), ?_⟩
  have lv : ys.length = rs.length := (DpAll.len ha).trans (List.length_map _)
  refine ⟨by show 0 ≤ sizeLine; decide, fun L hL => ?_⟩
  have m0 := same_new hL (.lst [])
  refine ⟨_, rfl, a, rfl, ⟨_, m0.seq hs⟩, ?_⟩
  refine for_it walk_list (fun t σ H' => (∃ (Lw : Addr) (y2 : Option V), σ = [some (.ref a), some (.ref Lw), y2] ∧ H Lw = none ∧ H' Lw = some (.lst ((rsWords (rs.take t)).map V.str))) ∧ Same H H') ⟨⟨L, none, rfl, hL, upd_same⟩, m0⟩ (fun t σ H' _ h => h.2.seq hs) ?_ ?_
  · rintro t y σ H1 H2 ht ⟨⟨Lw, y2, rfl, hLw, e1⟩, m1⟩ ⟨rfl, ey⟩
    obtain ⟨x, er⟩ : ∃ x, rs[t]? = some x := ⟨rs[t]'(by rw [← lv]; exact ht), List.getElem?_eq_getElem _⟩
    obtain ⟨y', ey', dy⟩ := DpAll.get ha (i := t) (d := Ru.d x) (by rw [List.getElem?_map, er]; rfl)
    rw [ey] at ey'
    cases ey'
    have gx := g x (List.mem_of_getElem? er)
    have hone : (rsWords (rs.take t)).length + (ruWords x).length ≤ (rsWords rs).length := Toy.flatMap_one er
    have hw : (ruWords x).length = 1 + ((tWords x.t).length + ((dWords x).length + ((tWords x.e).length + (tWords x.k).length))) := by
      unfold ruWords
      simp only [List.length_cons, List.length_append]
      omega
    unfold Ru.d at dy
    cases dy with
    | @tup b ws ds2 hs2 ha2 =>
    cases ha2 with
    | cons h1 h2 =>
    cases h2 with
    | @cons yd _ _ _ h3 h4 =>
    cases h4 with
    | cons h5 h6 =>
    cases h6
    obtain ⟨ve, ad, e0, hs3, he⟩ : ∃ (ve : V) (ad : Addr), yd = .ref ad ∧ SqT K H ad ((dWords x).map V.str ++ [ve]) ∧ Dp K H ve x.e.d := by
      unfold Ru.deed at h3
      unfold dWords
      cases e : x.a with
      | none =>
        rw [e] at h3
        cases h3 with
        | @tup c xs3 ds3 hs3 ha3 =>
        cases ha3 with
        | cons k1 k2 =>
        cases k1
        cases k2 with
        | cons k3 k4 =>
        cases k4
        exact ⟨_, c, rfl, hs3, k3⟩
      | some p =>
        rw [e] at h3
        cases h3 with
        | @tup c xs3 ds3 hs3 ha3 =>
        cases ha3 with
        | cons k1 k2 =>
        cases k1
        cases k2 with
        | cons k3 k4 =>
        cases k3
        cases k4 with
        | cons k5 k6 =>
        cases k6
        exact ⟨_, c, rfl, hs3, k5⟩
    subst e0
    have sz : ∀ n : Nat, n ≤ 4000000 → n ≤ sizeLine := fun n h => Nat.le_trans h (by decide)
    refine ⟨_, rfl, by show 1 ≤ sizeLine; decide, fun A1 hA1 => ?_⟩
    have n1 := same_new hA1 (.lst [V.str "when"])
    refine ⟨Lw, A1, _, _, rfl, rfl, n1 _ _ e1, upd_same, ?_, fun A2 hA2 => ?_⟩
    · refine sz _ ?_
      simp only [List.length_map, List.length_cons, List.length_nil]
      omega
    have n2 := n1.trans (same_new hA2 (.lst ((rsWords (rs.take t)).map V.str ++ [V.str "when"])))
    refine ⟨_, rfl, b, _, 0, _, rfl, rfl, sqT_mono (m1.trans n2) hs2, atI_nat (j := 0) rfl, _, x.t, rfl, dp_mono (m1.trans n2) _ _ h1, gx.t, by omega, fun A3 H3 n3 hA3 e3 => ?_⟩
    refine ⟨A2, A3, _, _, rfl, rfl, n3 _ _ upd_same, e3, ?_, fun A4 hA4 => ?_⟩
    · refine sz _ ?_
      simp only [List.length_map, List.length_append, List.length_cons, List.length_nil]
      omega
    have n4 := (n2.trans n3).trans (same_new hA4 (.lst ((rsWords (rs.take t)).map V.str ++ [V.str "when"] ++ (tWords x.t).map V.str)))
    have e4 : (upd H3 A4 (.lst ((rsWords (rs.take t)).map V.str ++ [V.str "when"] ++ (tWords x.t).map V.str))) A4 = some (.lst ((rsWords (rs.take t)).map V.str ++ [V.str "when"] ++ (tWords x.t).map V.str)) := upd_same
    revert n4 e4
    generalize upd H3 A4 (.lst ((rsWords (rs.take t)).map V.str ++ [V.str "when"] ++ (tWords x.t).map V.str)) = H4
    intro n4 e4
    have s4 := m1.trans n4
    refine ⟨_, rfl, b, _, 1, _, rfl, rfl, sqT_mono s4 hs2, atI_nat (j := 1) rfl, ?_⟩
    refine ⟨_, rfl, _, rfl, ad, _, rfl, sqT_mono s4 hs3, fun tq H5 m5 hq => ?_⟩
    rw [cut_init] at hq
    refine ⟨tq, _, rfl, .inr hq, fun A5 hA5 => ?_⟩
    have n5 := m5.trans (same_new hA5 (.lst ((dWords x).map V.str)))
    refine ⟨A4, A5, _, _, rfl, rfl, n5 _ _ e4, upd_same, ?_, fun A6 hA6 => ?_⟩
    · refine sz _ ?_
      simp only [List.length_map, List.length_append, List.length_cons, List.length_nil]
      omega
    have n6 := n4.trans (n5.trans (same_new hA6 (.lst ((rsWords (rs.take t)).map V.str ++ [V.str "when"] ++ (tWords x.t).map V.str ++ (dWords x).map V.str))))
    have e6 : (upd (upd H5 A5 (.lst ((dWords x).map V.str))) A6 (.lst ((rsWords (rs.take t)).map V.str ++ [V.str "when"] ++ (tWords x.t).map V.str ++ (dWords x).map V.str))) A6 = some (.lst ((rsWords (rs.take t)).map V.str ++ [V.str "when"] ++ (tWords x.t).map V.str ++ (dWords x).map V.str)) := upd_same
    revert n6 e6
    generalize upd (upd H5 A5 (.lst ((dWords x).map V.str))) A6 (.lst ((rsWords (rs.take t)).map V.str ++ [V.str "when"] ++ (tWords x.t).map V.str ++ (dWords x).map V.str)) = H6
    intro n6 e6
    have s6 := m1.trans n6
    refine ⟨_, rfl, b, _, 1, _, rfl, rfl, sqT_mono s6 hs2, atI_nat (j := 1) rfl, _, rfl, ad, _, -1, _, rfl, rfl, sqT_mono s6 hs3, atI_last _ _, _, x.e, rfl, dp_mono s6 _ _ he, gx.e, by omega, fun A7 H7 n7 hA7 e7 => ?_⟩
    refine ⟨A6, A7, _, _, rfl, rfl, n7 _ _ e6, e7, ?_, fun A8 hA8 => ?_⟩
    · refine sz _ ?_
      simp only [List.length_map, List.length_append, List.length_cons, List.length_nil]
      omega
    have n8 := (s6.trans n7).trans (same_new hA8 (.lst ((rsWords (rs.take t)).map V.str ++ [V.str "when"] ++ (tWords x.t).map V.str ++ (dWords x).map V.str ++ (tWords x.e).map V.str)))
    refine ⟨_, rfl, b, _, 2, _, rfl, rfl, sqT_mono n8 hs2, atI_nat (j := 2) rfl, _, x.k, rfl, dp_mono n8 _ _ h5, gx.k, by omega, fun A9 H9 n9 hA9 e9 => ?_⟩
    refine ⟨A8, A9, _, _, rfl, rfl, n9 _ _ upd_same, e9, ?_, fun A10 hA10 => ?_⟩
    · refine sz _ ?_
      simp only [List.length_map, List.length_append, List.length_cons, List.length_nil]
      omega
    have nn := n8.trans n9
    refine ⟨⟨A10, _, rfl, none_of_same nn hA10, ?_⟩, nn.trans (same_new hA10 _)⟩
    have : rsWords (rs.take (t + 1)) = rsWords (rs.take t) ++ ruWords x := Toy.flatMap_take er
    rw [upd_same, this, List.map_append]
    unfold ruWords
    simp
  · rintro σ H1 ⟨⟨Lw, y2, rfl, hLw, e1⟩, m1⟩
    rw [lv, List.take_length] at e1
    exact ⟨_, rfl, q Lw H1 m1 hLw e1⟩
end
end Toy
set_option Elab.async false
set_option linter.all false
set_option maxRecDepth 100000
set_option maxHeartbeats 2000000
/-! isinstance of a held error that has fields. -/
namespace IsD
open PySem L2 PySem.Spec PyProof.Rows
def rIsE2 (K : PySem.W.Frag) (D a : Addr) (cls : Value) (d : Option Addr) : List V → Hp → VK → Prop := fun xs H Q => ∃ (c : V) (cv : Value) (b : Bool) (dd : Addr) (fs : List (Str × V)), xs = [.ref a, c] ∧ cls = .ref D ∧ d = some dd ∧ H dd = some (.xd fs) ∧ (∀ u, RelV c u → u = cv) ∧ PySem.W.kitOne K (.ref D) cv = some b ∧ Q (.bl b) H
def rIsET2 (K : PySem.W.Frag) (D a : Addr) (cls : Value) (d : Option Addr) : List V → Hp → VK → Prop := fun xs H Q => ∃ (tp : Addr) (cs : List V) (us : List Value) (b : Bool) (dd : Addr) (fs : List (Str × V)), xs = [.ref a, .ref tp] ∧ cls = .ref D ∧ d = some dd ∧ H dd = some (.xd fs) ∧ H tp = some (.tup cs) ∧ Paired ClsV cs us ∧ PySem.W.kitAny K (.ref D) us = some b ∧ Q (.bl b) H
section
variable {X : Cx} {a D : Addr} {oe : Obj} {pn : List (Addr × Obj)} {cls : Value} {d : Option Addr}
theorem kit_of {K : PySem.W.Frag} {x : Addr} {ox : Obj} {od : Option Obj} (C : ExcC K D) : PySem.W.KitX K (.ref x) (.ref D) (fun h => PySem.W.InstAt h x ox D od) := by
  have hcl : (PySem.W.clsIn K D).isSome = true := by
    obtain ⟨cd, hc, _⟩ := PySem.W.any_some C.hd
    rw [hc]; rfl
  exact PySem.W.kitx_exc hcl C.hg C.hk C.hs C.ha C.hn C.ht C.hm
theorem call_isE2 (C : ExcC X.K D) (hz : Zc cls d oe) (hf : ∃ vs, oe.data = .fields vs) : CallR (X.suite a ((a, oe) :: pn)) (.builtin "isinstance") (rIsE2 X.K D a cls d) := by
  intro pins s σ H xs us Q I r h
  obtain ⟨c, cv, b, dd, fs, rfl, rfl, rfl, ea, hcv, e, q⟩ := h
  cases r with
  | cons rx rr =>
    cases rr with
    | cons rt rr =>
      cases rr
      cases rx
      have ec := hcv _ rt
      subst ec
      obtain ⟨hget, _⟩ := I.pin (a, oe) (List.mem_append.mpr (.inl List.mem_cons_self))
      obtain ⟨vs, hd⟩ := hf
      have hx : ObjOk X.prog X.w H s.heap dd (.xd fs) := I.hok dd _ ea
      obtain ⟨mA, hns, hr⟩ := hx
      obtain ⟨od, ho, hl⟩ := lookIn_ns hns
      have J : PySem.W.InstAt s.heap a oe D (some od) := ⟨hget, hz.1, by unfold PySem.W.notCls; rw [hd] <;> rfl, by rw [hz.2]; exact ho⟩
      exact PySem.W.kia_one (kit_of C) I.kIn J e (fun z => nomatch z) fun tk => ⟨.bl b, H, I.kept (t' := tk) fun _ _ z => z, rfl, q⟩
theorem call_isET2 (C : ExcC X.K D) (hz : Zc cls d oe) (hf : ∃ vs, oe.data = .fields vs) : CallR (X.suite a ((a, oe) :: pn)) (.builtin "isinstance") (rIsET2 X.K D a cls d) := by
  intro pins s σ H xs us Q I r h
  obtain ⟨tp, cs, ws, b, dd, fs, rfl, rfl, rfl, ea, hT, k, e, q⟩ := h
  obtain ⟨u1, u2, rfl, r1, r2⟩ := vals2 r
  cases (show u1 = Value.ref a from r1)
  cases (show u2 = Value.ref tp from r2)
  obtain ⟨hget, _⟩ := I.pin (a, oe) (List.mem_append.mpr (.inl List.mem_cons_self))
  obtain ⟨vs, hd⟩ := hf
  have hx : ObjOk X.prog X.w H s.heap dd (.xd fs) := I.hok dd _ ea
  obtain ⟨mA, hns, hr⟩ := hx
  obtain ⟨od, ho, hl⟩ := lookIn_ns hns
  have J : PySem.W.InstAt s.heap a oe D (some od) := ⟨hget, hz.1, by unfold PySem.W.notCls; rw [hd] <;> rfl, by rw [hz.2]; exact ho⟩
  obtain ⟨_, its, rv, o, h1, h2, n, h3⟩ := (show ObjOk X.prog X.w H s.heap tp (.tup cs) from I.hok tp _ hT)
  have e3 := ClsV.all k rv
  subst e3
  obtain ⟨oc, od2, dt, sl⟩ := o
  simp only at h2 h3
  subst h2 h3
  exact PySem.W.kia_tup (kit_of C) I.kIn J h1 e (fun z => nomatch z) fun tk => ⟨.bl b, H, I.kept (t' := tk) fun _ _ z => z, rfl, q⟩
end
end IsD
set_option Elab.async false
set_option linter.all false
set_option maxRecDepth 100000
set_option maxHeartbeats 4000000
namespace Toy
open PySem L2 NdefX Gm Pz
open Mine hiding same_new
structure WsOk (ws : List Str) : Prop where
  n : ws.length ≤ 10000
  w : ∀ w ∈ ws, w.length ≤ 20
  s : ∀ w ∈ ws, 32 ∉ signs w
  e : ws ≠ [("" : Str)]
def wsOkB (ws : List Str) : Bool := decide (ws.length ≤ 10000) && ws.all (fun w => decide (w.length ≤ 20) && !(signs w).any (fun c => decide (c = 32))) && decide (ws ≠ [("" : Str)])
theorem wsOkB_ok {ws : List Str} (h : wsOkB ws = true) : WsOk ws := by
  unfold wsOkB at h
  rw [Bool.and_eq_true, Bool.and_eq_true] at h
  have h2 := List.all_eq_true.mp h.1.2
  refine ⟨of_decide_eq_true h.1.1, fun w hw => ?_, fun w hw => ?_, of_decide_eq_true h.2⟩
  · have := h2 w hw
    rw [Bool.and_eq_true] at this
    exact of_decide_eq_true this.1
  · have := h2 w hw
    rw [Bool.and_eq_true, Bool.not_eq_true'] at this
    intro z
    have := List.any_eq_false.mp this.2 32 z
    simp at this
theorem sum_le : ∀ {ws : List Str}, (∀ w ∈ ws, w.length ≤ 20) → (ws.map (·.length)).sum ≤ 20 * ws.length
  | [], _ => Nat.le_refl _
  | w :: ws, h => by
    have h1 := h w (List.mem_cons_self ..)
    have h2 := sum_le fun x hx => h x (List.mem_cons_of_mem _ hx)
    simp only [List.map_cons, List.sum_cons, List.length_cons]
    omega
theorem joinL_len {S : List Nat} (hS : S.length = 1) : ∀ ps : List (List Nat), (TL.joinL S ps).length + 1 ≤ (ps.map (·.length)).sum + ps.length + 1 ∧ (ps = [] ∨ (TL.joinL S ps).length + 1 = (ps.map (·.length)).sum + ps.length)
  | [] => ⟨by simp [TL.joinL], .inl rfl⟩
  | [p] => by
    refine ⟨?_, .inr ?_⟩ <;> simp [TL.joinL]
  | p :: q :: r => by
    have ih := joinL_len hS (q :: r)
    have ih2 := ih.2.resolve_left (List.cons_ne_nil _ _)
    have e : (TL.joinL S (p :: q :: r)).length = p.length + (1 + (TL.joinL S (q :: r)).length) := by
      show (p ++ (S ++ TL.joinL S (q :: r))).length = _
      rw [List.length_append, List.length_append, hS]
    refine ⟨?_, .inr ?_⟩ <;> (rw [e]; simp only [List.map_cons, List.sum_cons, List.length_cons] at *; omega)
theorem lens_tl (ws : List Str) : ((ws.map TL.tl).map (·.length)).sum = (ws.map (·.length)).sum := by
  rw [List.map_map]
  refine congrArg List.sum (List.map_congr_left fun w _ => ?_)
  exact (TL.len_tl w).symm
theorem join_len (ws : List Str) : (Txt.join " " ws).length ≤ (ws.map (·.length)).sum + ws.length ∧ (ws = [] ∨ (Txt.join " " ws).length + 1 = (ws.map (·.length)).sum + ws.length) := by
  have h := joinL_len (S := TL.tl " ") (by decide +kernel) (ws.map TL.tl)
  rw [lens_tl, List.length_map] at h
  rw [TL.len_tl, TL.join_eq, TL.tl_join]
  refine ⟨by omega, ?_⟩
  rcases h.2 with z | z
  · exact .inl (List.map_eq_nil_iff.mp z)
  · exact .inr z
theorem toWords_join {ws : List Str} (h : WsOk ws) : toWords (Txt.join " " ws) = ws := by
  unfold toWords
  by_cases c : ws = []
  · rw [c]
    decide +kernel
  have hl := (join_len ws).2.resolve_left c
  have hn : (Txt.join " " ws).length ≠ 0 := by
    intro z
    rw [z] at hl
    have hlen : ws.length = 1 := by
      have : 0 < ws.length := Nat.pos_of_ne_zero fun z => c (List.length_eq_zero_iff.mp z)
      omega
    match ws, hlen with
    | [w], _ =>
      have hw : w.length = 0 := by simpa using hl
      have : w = "" := by
        refine str_ext' ?_
        have := len_signs w
        rw [hw] at this
        rw [List.length_eq_zero_iff.mp this]
        decide +kernel
      exact h.e (by rw [this])
  rw [if_neg hn]
  exact TL.split_join (s := 32) (S := []) (by decide +kernel) (by decide +kernel) c h.s
theorem WsOk.len {ws : List Str} (h : WsOk ws) : (Txt.join " " ws).length ≤ 210000 := by
  have := (join_len ws).1
  have := sum_le h.w
  have := h.n
  omega
def rJ (K : PySem.W.Frag) : V → List V → Hp → VK → Prop := fun x xs H Q => ∃ a p, ∃ ys : List Str, x = .str a ∧ xs = [.ref p] ∧ (SqL K H p (ys.map V.str) ∨ SqT K H p (ys.map V.str)) ∧ (ys.map (·.length)).sum + ys.length * a.length ≤ 16777216 ∧ Q (.str (Txt.join a ys)) H
def tb_at (C B : Addr) (K : PySem.W.Frag) : WX → TS := fun W => tAsg (tCallS (spTac C B K) (WE W) (tCons (tM1 (rJ K) (fun _ H Q => Q (.str " ") H) (tVar 0)) tNil)) (gName 1)
def ts_at (K : PySem.W.Frag) (B P : Addr) : Addr → Value → Option Addr → TS := fun a cls d =>
  tSeq (tIfS (tOr (tB (tCB (IsD.rIsE2 K B a cls d) (tCons (tVar 2) (tCons (tC (.ref P)) tNil)))) (tNot (tB (tCB (IsD.rIsE2 K B a cls d) (tCons (tVar 2) (tCons (tC (.ref B)) tNil)))))) (tRet (tUn (rU fun i => .int (-i)) (tC (.int 1)))) tNext) (tRet (tXf a cls d B "at" (tVar 2)))
def spAt (K : PySem.W.Frag) : Sp := fun vs H Q _ => ∃ (a : Addr) (ws : List Str), vs = [.ref a] ∧ SqL K H a (ws.map V.str) ∧ WsOk ws ∧ ∀ H', Same H H' → Q (.int (tacAt ws)) H'
theorem join_small {ws : List Str} (h : WsOk ws) : (ws.map (·.length)).sum + ws.length * (" " : Str).length ≤ 16777216 := by
  have := sum_le h.w
  have := h.n
  rw [show (" " : Str).length = 1 from by decide +kernel, Nat.mul_one]
  omega
section
variable {P : Program} {w : World} {K : PySem.W.Frag} {mg : Str → Option Value} {base : Heap} {file : Str}
theorem ok_at (hP : PrF P file) (T : Txt K mg file) : FnOk P w K mg base CX0 18 T.a_law_at T.fd_law_at ["words"] (spAt K) := by
  have G_read_tactic : FnOk P w K mg base (L2.CX P w) 16 T.a_read_tactic T.fd_read_tactic ["text"] (spTac T.C_Tactic T.C_BadText K) := tac_read hP T
  have G_tactic_text : FnOk P w K mg base CX0 11 T.a_tactic_text T.fd_tactic_text ["tactic"] (spTText T.C_Tactic K) := ok_text T
  refine T.F_law_at.ok sc_law_at (fun vs H Q E h => ?_) (fun cdv A outer s H vs Q E hr h => ?_)
  · obtain ⟨a, ws, rfl, _⟩ := h
    rfl
  obtain ⟨a, ws, rfl, hS, ok, q⟩ := h
  refine ⟨_, (pss_cons (ps_try_as (i := 2) (tb := tb_at T.C_Tactic T.C_BadText K) (ts := ts_at K T.C_BadText T.C_BadPaper) (Wout := fun _ _ _ _ => False) rfl rfl sc_law_at.nd rfl rfl ⟨rfl, by decide, Or.inl T.g_PlayError⟩ takes0
      (fun W pn xe tk _ => by exact (pss_one (ps_set (i := 1) sc_law_at.nd rfl (Or.inl rfl) (pe_callS G_read_tactic (hr.mono (by decide)) rfl T.g_read_tactic T.k_read_tactic T.b_read_tactic (fun σ => passAt tk σ) (pa_cons (pe_join pe_str (pv 0)) pa_nil)))))
      (fun a oe cls d pn hz hf => by exact (pss_cons (ps_if (PW.pt (pw_or (pt_val (pe_callB (IsD.call_isE2 T.ec_BadText hz hf) (by rfl) T.z_isinstance (by decide +kernel) (pa_cons (pv 2) (pa_cons (pe_glob (v := .ref T.C_BadPaper) rfl T.g_BadPaper rfl) pa_nil)))) (pw_or1 (pt_not (pt_val (pe_callB (IsD.call_isE2 T.ec_BadText hz hf) (by rfl) T.z_isinstance (by decide +kernel) (pa_cons (pv 2) (pa_cons (pe_glob (v := .ref T.C_BadText) rfl T.g_BadText rfl) pa_nil))))))))
      (pss_one (ps_ret (pe_un un_neg pe_int)))
      pss_nil)
    (pss_one (ps_ret (pe_xf ⟨T.xga_BadText, T.xgg_BadText, T.xb_BadText, T.xd_BadText⟩ T.E_BadText.no hz hf (pv 2)))))))
    (pss_cons (ps_if (pt_cmpR op_ne (pe_call G_tactic_text (hr.mono (by decide)) rfl T.g_tactic_text T.k_tactic_text T.b_tactic_text .nil pass0 (pa_cons (pv 1) pa_nil)) (pe_join pe_str (pv 0)) (nomark _))
      (pss_one (ps_ret (pe_un un_neg pe_int)))
      pss_nil)
    (pss_one (ps_ret (pe_un un_neg pe_int))))), ?_⟩
  have hj := join_small ok
  refine ⟨⟨_, rfl⟩, _, rfl, _, a, ws, rfl, rfl, .inl hS, hj, ?_⟩
  refine ⟨_, rfl, Nat.le_trans ok.len (by decide), ?_, ?_, ?_⟩
  · rw [toWords_join ok]
    have := ok.n
    omega
  · rw [toWords_join ok]
    intro w hw
    have := ok.w w hw
    omega
  rw [toWords_join ok]
  unfold tacAt at q
  cases hp : pTac ws with
  | error j =>
    rw [hp] at q
    intro d H' sm hd
    refine ⟨true, PySem.W.exm_ref T.xb_PlayError T.xd_PlayError T.xt_PlayError T.sub_tp, fun _ a' na => ?_, fun z => Bool.noConfusion z⟩
    refine ⟨_, rfl, _, _, false, d, _, rfl, rfl, rfl, hd, fun u r => r, T.ki_tp, false, rfl, iteF ?_⟩
    refine ⟨_, rfl, _, _, true, d, _, rfl, rfl, rfl, hd, fun u r => r, T.ki_tt, true, rfl, iteF ?_⟩
    exact ⟨_, rfl, rfl, rfl, d, _, _, rfl, hd, rfl, q _ sm⟩
  | ok rs =>
    rw [hp] at q
    obtain ⟨bw, bg, bl⟩ := tac_back hp
    intro r H' sm hg
    refine ⟨_, rfl, r, rs, rfl, hg, bg, ?_, ?_, fun H2 s2 => ⟨⟨_, rfl⟩, _, rfl, _, a, ws, rfl, rfl, .inl ((sm.trans s2).seq hS), hj, rfl, _, rfl, ?_⟩⟩
    · rw [bw]
      have := ok.n
      omega
    · rw [bw]
      have := sum_le ok.w
      have := ok.n
      omega
    unfold rsText
    rw [bw]
    refine ite_no (by simp) ?_
    exact ⟨_, rfl, q H2 (sm.trans s2)⟩
end
end Toy
set_option Elab.async false
set_option linter.all false
set_option maxRecDepth 100000
set_option maxHeartbeats 4000000
namespace Toy
open PySem L2 NdefX Gm Pz
open Mine hiding same_new
def ruleL : List Str := ["when", "1", "say", "0", "kept"]
def headL : Nat → List Str
  | 0 => ["when"]
  | 1 => ["when", "1", "ask", "p"]
  | _ => ["when", "1", "say", "0"]
def restL : Nat → List Str
  | 0 => ["say", "0", "kept"]
  | 1 => ["kept"]
  | _ => []
def repL (n : Nat) (xs : List Str) : List Str := (List.replicate n xs).flatten
def leftL (k d : Nat) : List Str := headL k ++ repL d ["+"] ++ repL (d + 1) ["1"] ++ restL k
def rightL (k d : Nat) : List Str := headL k ++ repL d ["+", "1"] ++ (["last"] : List Str) ++ restL k
def dueL (k d : Nat) : Int × Int := if 7 < d then (((headL k).length : Int) + 7, ((headL k).length : Int) + 14) else (-3, -3)
theorem rule_at : ∀ c, c < 4 → tacAt (repL (19 + c) ruleL) = (if 20 < 19 + c then 100 else -3) ∧ wsOkB (repL (19 + c) ruleL) = true := by decide +kernel
theorem both_at : ∀ k, k < 3 → ∀ d, d < 4 → tacAt (leftL k (6 + d)) = (dueL k (6 + d)).1 ∧ tacAt (rightL k (6 + d)) = (dueL k (6 + d)).2 ∧ wsOkB (leftL k (6 + d)) = true ∧ wsOkB (rightL k (6 + d)) = true := by decide +kernel
theorem rep_map (n : Nat) (xs : List Str) : (List.replicate n (xs.map V.str)).flatten = (repL n xs).map V.str := by
  unfold repL
  rw [List.map_flatten, List.map_replicate]
theorem rep_len (n : Nat) (xs : List Str) : (repL n xs).length = n * xs.length := by
  unfold repL
  simp
def spBounds : Sp := fun vs H Q _ => ∃ c d : Nat, vs = [.int (((19 + c : Nat)) : Int), .int (((6 + d : Nat)) : Int)] ∧ c < 4 ∧ d < 4 ∧ ∀ H', Same H H' → Q (.bl true) H'
section
variable {P : Program} {w : World} {K : PySem.W.Frag} {mg : Str → Option Value} {base : Heap} {file : Str}
theorem ok_bounds (hP : PrF P file) (T : Txt K mg file) : FnOk P w K mg base CX0 19 T.a_law_bounds T.fd_law_bounds ["count", "deep"] spBounds := by
  have G_law_at : FnOk P w K mg base CX0 18 T.a_law_at T.fd_law_at ["words"] (spAt K) := ok_at hP T
  refine T.F_law_bounds.ok sc_law_bounds (fun vs H Q E h => ?_) (fun cdv A outer s H vs Q E hr h => ?_)
  · obtain ⟨c, d, rfl, _⟩ := h
    rfl
  obtain ⟨c, d, rfl, hc, hd, q⟩ := h
  refine ⟨_, (pss_cons (ps_set (i := 2) sc_law_bounds.nd rfl (Or.inl rfl) (pe_lst (pa_cons pe_str (pa_cons pe_str (pa_cons pe_str (pa_cons pe_str (pa_cons pe_str pa_nil)))))))
    (pss_cons (ps_set (i := 3) sc_law_bounds.nd rfl (Or.inl rfl) (pe_un un_neg pe_int))
    (pss_cons (ps_if (pt_cmpR op_gt (pv 0) pe_int (nomark _))
      (pss_one (ps_set (i := 3) sc_law_bounds.nd rfl (Or.inl rfl) pe_int))
      pss_nil)
    (pss_cons (ps_if (pt_cmpR op_ne (pe_call G_law_at (hr.mono (by decide)) rfl T.g_law_at T.k_law_at T.b_law_at .nil pass0 (pa_cons (pe_op op_rep (pv 2) (pv 0)) pa_nil)) (pv 3) (nomark _))
      (pss_one (ps_ret pe_bl))
      pss_nil)
    (pss_cons (ps_set (i := 4) sc_law_bounds.nd rfl (Or.inl rfl) (pe_tup (pa_cons (pe_lst (pa_cons pe_str pa_nil)) (pa_cons (pe_lst (pa_cons pe_str (pa_cons pe_str (pa_cons pe_str (pa_cons pe_str pa_nil))))) (pa_cons (pe_lst (pa_cons pe_str (pa_cons pe_str (pa_cons pe_str (pa_cons pe_str pa_nil))))) pa_nil)))))
    (pss_cons (ps_for PassesOwn.never rfl (pi_range1 (by rfl) T.z_range (pa_cons pe_int pa_nil)) (pg_name (i := 5) sc_law_bounds.nd rfl (Or.inl rfl))
      (pss_cons (ps_set (i := 6) sc_law_bounds.nd rfl (Or.inl rfl) (pe_ix ix_tup (pe_tup (pa_cons (pe_lst (pa_cons pe_str (pa_cons pe_str (pa_cons pe_str pa_nil)))) (pa_cons (pe_lst (pa_cons pe_str pa_nil)) (pa_cons (pe_lst pa_nil) pa_nil)))) (pv 5) (fun _ _ => rfl)))
    (pss_cons (ps_set (i := 7) sc_law_bounds.nd rfl (Or.inl rfl) (pe_op op_cat (pe_op op_cat (pe_op op_cat (pe_ix ix_tup (pv 4) (pv 5) (fun _ _ => rfl)) (pe_op op_rep (pe_lst (pa_cons pe_str pa_nil)) (pv 1))) (pe_op op_rep (pe_lst (pa_cons pe_str pa_nil)) (pe_op op_add (pv 1) pe_int))) (pv 6)))
    (pss_cons (ps_set (i := 8) sc_law_bounds.nd rfl (Or.inl rfl) (pe_op op_cat (pe_op op_cat (pe_op op_cat (pe_ix ix_tup (pv 4) (pv 5) (fun _ _ => rfl)) (pe_op op_rep (pe_lst (pa_cons pe_str (pa_cons pe_str pa_nil))) (pv 1))) (pe_lst (pa_cons pe_str pa_nil))) (pv 6)))
    (pss_cons (ps_set (i := 9) sc_law_bounds.nd rfl (Or.inl rfl) (pe_tup (pa_cons (pe_un un_neg pe_int) (pa_cons (pe_un un_neg pe_int) pa_nil))))
    (pss_cons (ps_if (pt_cmpR op_gt (pv 1) pe_int (nomark _))
      (pss_one (ps_set (i := 9) sc_law_bounds.nd rfl (Or.inl rfl) (pe_tup (pa_cons (pe_op op_add (pe_callB call_len_seq (by rfl) T.z_len (by decide +kernel) (pa_cons (pe_ix ix_tup (pv 4) (pv 5) (fun _ _ => rfl)) pa_nil)) pe_int) (pa_cons (pe_op op_add (pe_callB call_len_seq (by rfl) T.z_len (by decide +kernel) (pa_cons (pe_ix ix_tup (pv 4) (pv 5) (fun _ _ => rfl)) pa_nil)) pe_int) pa_nil)))))
      pss_nil)
    (pss_one (ps_if (pt_cmpR (op_neD hr.units) (pe_tup (pa_cons (pe_call G_law_at (hr.mono (by decide)) rfl T.g_law_at T.k_law_at T.b_law_at .nil pass0 (pa_cons (pv 7) pa_nil)) (pa_cons (pe_call G_law_at (hr.mono (by decide)) rfl T.g_law_at T.k_law_at T.b_law_at .nil pass0 (pa_cons (pv 8) pa_nil)) pa_nil))) (pv 9) (nomark _))
      (pss_one (ps_ret pe_bl))
      pss_nil))))))))
    (pss_one (ps_ret pe_bl)))))))), ?_⟩
  have big : ∀ n : Nat, n ≤ 100000 → n ≤ sizeLine := fun n h => Nat.le_trans h (by decide)
  obtain ⟨r1, r2⟩ := rule_at c hc
  refine ⟨big 5 (by decide), fun L0 hL0 => ?_⟩
  have m0 := same_new hL0 (.lst (ruleL.map V.str))
  have e0 : (upd H L0 (.lst (ruleL.map V.str))) L0 = some (.lst (ruleL.map V.str)) := upd_same
  revert m0 e0
  show Same H (upd H L0 (.lst [V.str "when", V.str "1", V.str "say", V.str "0", V.str "kept"])) → (upd H L0 (.lst [V.str "when", V.str "1", V.str "say", V.str "0", V.str "kept"])) L0 = some (.lst (ruleL.map V.str)) → _
  generalize upd H L0 (.lst [V.str "when", V.str "1", V.str "say", V.str "0", V.str "kept"]) = H0
  intro m0 e0
  refine ⟨_, rfl, _, rfl, _, _, rfl, rfl, _, rfl, ?_⟩
  refine if_rest (fun σ H' => H' = H0 ∧ σ = [some (.int (((19 + c : Nat)) : Int)), some (.int (((6 + d : Nat)) : Int)), some (.ref L0), some (.int (if 20 < 19 + c then 100 else -3)), none, none, none, none, none, none]) ?_ ?_ ?_
  rotate_left
  · intro z rest
    have z := of_decide_eq_true z
    refine rest _ _ ⟨rfl, ?_⟩
    rw [if_pos (show 20 < 19 + c by omega)]
    rfl
  · intro z
    refine ⟨rfl, ?_⟩
    rw [if_neg (show ¬ 20 < 19 + c from fun y => z (decide_eq_true (by omega)))]
    rfl
  rintro σ H' ⟨rfl, rfl⟩
  refine ⟨_, rfl, _, rfl, L0, _, _, rfl, rfl, e0, by omega, by omega, big _ (by rw [List.length_map]; show 5 * _ ≤ 100000; omega), fun L1 hL1 => ?_⟩
  have n1 := same_new hL1 (.lst (List.replicate ((((19 + c : Nat)) : Int)).toNat (ruleL.map V.str)).flatten)
  have e1 : (upd H' L1 (.lst (List.replicate ((((19 + c : Nat)) : Int)).toNat (ruleL.map V.str)).flatten)) L1 = some (.lst ((repL (19 + c) ruleL).map V.str)) := by
    rw [upd_same, rep_map]
    rfl
  refine ⟨L1, _, rfl, SqL.of e1, wsOkB_ok r2, fun H2 m2 => ?_⟩
  refine ⟨_, rfl, rfl, _, rfl, ?_⟩
  rw [r1]
  refine ite_no (by simp) ?_
  have m02 := m0.trans (n1.trans m2)
  clear n1 e1 m2 m0 e0
  -- the heads
  refine ⟨big 1 (by decide), fun A0 hA0 => ?_⟩
  refine ⟨big 4 (by decide), fun A1 hA1 => ?_⟩
  refine ⟨big 4 (by decide), fun A2 hA2 => ?_⟩
  refine ⟨big 3 (by decide), fun A3 hA3 => ?_⟩
  have k1 := same_new hA1 (.lst [V.str "when", V.str "1", V.str "ask", V.str "p"])
  have k2 := same_new hA2 (.lst [V.str "when", V.str "1", V.str "say", V.str "0"])
  have k3 := same_new hA3 (.tup [V.ref A0, V.ref A1, V.ref A2])
  have f0 : (upd (upd (upd (upd H2 A0 (.lst [V.str "when"])) A1 (.lst [V.str "when", V.str "1", V.str "ask", V.str "p"])) A2 (.lst [V.str "when", V.str "1", V.str "say", V.str "0"])) A3 (.tup [V.ref A0, V.ref A1, V.ref A2])) A0 = some (.lst ((headL 0).map V.str)) := k3 _ _ (k2 _ _ (k1 _ _ upd_same))
  have f1 : (upd (upd (upd (upd H2 A0 (.lst [V.str "when"])) A1 (.lst [V.str "when", V.str "1", V.str "ask", V.str "p"])) A2 (.lst [V.str "when", V.str "1", V.str "say", V.str "0"])) A3 (.tup [V.ref A0, V.ref A1, V.ref A2])) A1 = some (.lst ((headL 1).map V.str)) := k3 _ _ (k2 _ _ upd_same)
  have f2 : (upd (upd (upd (upd H2 A0 (.lst [V.str "when"])) A1 (.lst [V.str "when", V.str "1", V.str "ask", V.str "p"])) A2 (.lst [V.str "when", V.str "1", V.str "say", V.str "0"])) A3 (.tup [V.ref A0, V.ref A1, V.ref A2])) A2 = some (.lst ((headL 2).map V.str)) := k3 _ _ upd_same
  have f3 : SqT K (upd (upd (upd (upd H2 A0 (.lst [V.str "when"])) A1 (.lst [V.str "when", V.str "1", V.str "ask", V.str "p"])) A2 (.lst [V.str "when", V.str "1", V.str "say", V.str "0"])) A3 (.tup [V.ref A0, V.ref A1, V.ref A2])) A3 [V.ref A0, V.ref A1, V.ref A2] := SqT.of upd_same
  have m3 := m02.trans ((same_new hA0 (.lst [V.str "when"])).trans (k1.trans (k2.trans k3)))
  revert f0 f1 f2 f3 m3
  clear k1 k2 k3 m02
  generalize upd (upd (upd (upd H2 A0 (.lst [V.str "when"])) A1 (.lst [V.str "when", V.str "1", V.str "ask", V.str "p"])) A2 (.lst [V.str "when", V.str "1", V.str "say", V.str "0"])) A3 (.tup [V.ref A0, V.ref A1, V.ref A2]) = H3
  intro f0 f1 f2 f3 m3
  have pick : ∀ (i : Nat), i < 3 → ∃ ah, atI [V.ref A0, V.ref A1, V.ref A2] (0 + (i : Int)) = some (.ref ah) ∧ H3 ah = some (.lst ((headL i).map V.str)) := by
    intro i hi
    match i, hi with
    | 0, _ => exact ⟨A0, rfl, f0⟩
    | 1, _ => exact ⟨A1, rfl, f1⟩
    | 2, _ => exact ⟨A2, rfl, f2⟩
  refine ⟨_, rfl, by decide, by decide, for_range (lo := 0) (n := 3) (fun i σ H' => (∃ y5 y6 y7 y8 y9, σ = [some (.int (((19 + c : Nat)) : Int)), some (.int (((6 + d : Nat)) : Int)), some (.ref L0), some (.int (if 20 < 19 + c then 100 else -3)), some (.ref A3), y5, y6, y7, y8, y9]) ∧ Same H3 H') ⟨⟨_, _, _, _, _, rfl⟩, Same.refl _⟩ ?_ ?_⟩
  rotate_left
  · rintro σ H4 ⟨_, m4⟩
    exact q _ (m3.trans m4)
  rintro i σ H4 hi ⟨⟨y5, y6, y7, y8, y9, rfl⟩, m4⟩
  obtain ⟨b1, b2, b3, b4⟩ := both_at i hi d hd
  obtain ⟨ah, ea, eh⟩ := pick i hi
  -- the rest
  refine ⟨big 3 (by decide), fun B0 hB0 => ?_⟩
  refine ⟨big 1 (by decide), fun B1 hB1 => ?_⟩
  refine ⟨big 0 (by decide), fun B2 hB2 => ?_⟩
  refine ⟨big 3 (by decide), fun B3 hB3 => ?_⟩
  have k1 := same_new hB1 (.lst [V.str "kept"])
  have k2 := same_new hB2 (.lst [])
  have k3 := same_new hB3 (.tup [V.ref B0, V.ref B1, V.ref B2])
  have g0 : (upd (upd (upd (upd H4 B0 (.lst [V.str "say", V.str "0", V.str "kept"])) B1 (.lst [V.str "kept"])) B2 (.lst [])) B3 (.tup [V.ref B0, V.ref B1, V.ref B2])) B0 = some (.lst ((restL 0).map V.str)) := k3 _ _ (k2 _ _ (k1 _ _ upd_same))
  have g1 : (upd (upd (upd (upd H4 B0 (.lst [V.str "say", V.str "0", V.str "kept"])) B1 (.lst [V.str "kept"])) B2 (.lst [])) B3 (.tup [V.ref B0, V.ref B1, V.ref B2])) B1 = some (.lst ((restL 1).map V.str)) := k3 _ _ (k2 _ _ upd_same)
  have g2 : (upd (upd (upd (upd H4 B0 (.lst [V.str "say", V.str "0", V.str "kept"])) B1 (.lst [V.str "kept"])) B2 (.lst [])) B3 (.tup [V.ref B0, V.ref B1, V.ref B2])) B2 = some (.lst ((restL 2).map V.str)) := k3 _ _ upd_same
  have g3 : SqT K (upd (upd (upd (upd H4 B0 (.lst [V.str "say", V.str "0", V.str "kept"])) B1 (.lst [V.str "kept"])) B2 (.lst [])) B3 (.tup [V.ref B0, V.ref B1, V.ref B2])) B3 [V.ref B0, V.ref B1, V.ref B2] := SqT.of upd_same
  have m5 := m4.trans ((same_new hB0 (.lst [V.str "say", V.str "0", V.str "kept"])).trans (k1.trans (k2.trans k3)))
  revert g0 g1 g2 g3 m5
  clear k1 k2 k3
  generalize upd (upd (upd (upd H4 B0 (.lst [V.str "say", V.str "0", V.str "kept"])) B1 (.lst [V.str "kept"])) B2 (.lst [])) B3 (.tup [V.ref B0, V.ref B1, V.ref B2]) = H5
  intro g0 g1 g2 g3 m5
  obtain ⟨br, eb, er⟩ : ∃ br, atI [V.ref B0, V.ref B1, V.ref B2] (0 + (i : Int)) = some (.ref br) ∧ H5 br = some (.lst ((restL i).map V.str)) := by
    match i, hi with
    | 0, _ => exact ⟨B0, rfl, g0⟩
    | 1, _ => exact ⟨B1, rfl, g1⟩
    | 2, _ => exact ⟨B2, rfl, g2⟩
  refine ⟨_, rfl, B3, _, _, _, rfl, rfl, g3, eb, ?_⟩
  have hd9 : 6 + d ≤ 9 := by omega
  have hh : (headL i).length ≤ 4 := (by decide : ∀ i, i < 3 → (headL i).length ≤ 4) i hi
  have hq : (restL i).length ≤ 3 := (by decide : ∀ i, i < 3 → (restL i).length ≤ 3) i hi
  -- left
  refine ⟨_, rfl, _, rfl, A3, _, _, _, rfl, rfl, sqT_mono m5 f3, ea, big 1 (by decide), fun D0 hD0 => ?_⟩
  have s6 : Same H5 (upd H5 D0 (.lst [V.str "+"])) := same_new hD0 _
  have eD0 : (upd H5 D0 (.lst [V.str "+"])) D0 = some (.lst [V.str "+"]) := upd_same
  revert s6 eD0
  generalize upd H5 D0 (.lst [V.str "+"]) = H6
  intro s6 eD0
  have m6 := m5.trans s6
  refine ⟨_, rfl, D0, _, _, rfl, rfl, eD0, by omega, by omega, big _ (by show 1 * _ ≤ 100000; omega), fun D1 hD1 => ?_⟩
  have s7 : Same H6 (upd H6 D1 (.lst (List.replicate (((((6 + d : Nat)) : Int))).toNat [V.str "+"]).flatten)) := same_new hD1 _
  have eD1 : (upd H6 D1 (.lst (List.replicate (((((6 + d : Nat)) : Int))).toNat [V.str "+"]).flatten)) D1 = some (.lst ((repL (6 + d) ["+"]).map V.str)) := (upd_same).trans (congrArg (fun z => some (HO.lst z)) (rep_map (6 + d) ["+"]))
  revert s7 eD1
  generalize upd H6 D1 (.lst (List.replicate (((((6 + d : Nat)) : Int))).toNat [V.str "+"]).flatten) = H7
  intro s7 eD1
  have m7 := m6.trans s7
  refine ⟨ah, D1, _, _, rfl, rfl, m7 _ _ eh, eD1, big _ (by simp only [List.length_map, rep_len, List.length_cons, List.length_nil]; omega), fun D2 hD2 => ?_⟩
  have s8 : Same H7 (upd H7 D2 (.lst ((headL i).map V.str ++ (repL (6 + d) ["+"]).map V.str))) := same_new hD2 _
  have eD2 : (upd H7 D2 (.lst ((headL i).map V.str ++ (repL (6 + d) ["+"]).map V.str))) D2 = some (.lst ((headL i).map V.str ++ (repL (6 + d) ["+"]).map V.str)) := upd_same
  revert s8 eD2
  generalize upd H7 D2 (.lst ((headL i).map V.str ++ (repL (6 + d) ["+"]).map V.str)) = H8
  intro s8 eD2
  have m8 := m7.trans s8
  refine ⟨big 1 (by decide), fun D3 hD3 => ?_⟩
  have s9 : Same H8 (upd H8 D3 (.lst [V.str "1"])) := same_new hD3 _
  have eD3 : (upd H8 D3 (.lst [V.str "1"])) D3 = some (.lst [V.str "1"]) := upd_same
  revert s9 eD3
  generalize upd H8 D3 (.lst [V.str "1"]) = H9
  intro s9 eD3
  have m9 := m8.trans s9
  refine ⟨_, rfl, _, _, rfl, rfl, D3, _, _, rfl, rfl, eD3, by omega, by omega, big _ (by show 1 * _ ≤ 100000; omega), fun D4 hD4 => ?_⟩
  have s10 : Same H9 (upd H9 D4 (.lst (List.replicate (((((6 + d : Nat)) : Int) + 1)).toNat [V.str "1"]).flatten)) := same_new hD4 _
  have eD4 : (upd H9 D4 (.lst (List.replicate (((((6 + d : Nat)) : Int) + 1)).toNat [V.str "1"]).flatten)) D4 = some (.lst ((repL (6 + d + 1) ["1"]).map V.str)) := (upd_same).trans (congrArg (fun z => some (HO.lst z)) (rep_map (6 + d + 1) ["1"]))
  revert s10 eD4
  generalize upd H9 D4 (.lst (List.replicate (((((6 + d : Nat)) : Int) + 1)).toNat [V.str "1"]).flatten) = H10
  intro s10 eD4
  have m10 := m9.trans s10
  refine ⟨D2, D4, _, _, rfl, rfl, s10 _ _ (s9 _ _ eD2), eD4, big _ (by simp only [List.length_append, List.length_map, rep_len, List.length_cons, List.length_nil]; omega), fun D5 hD5 => ?_⟩
  have s11 : Same H10 (upd H10 D5 (.lst ((headL i).map V.str ++ (repL (6 + d) ["+"]).map V.str ++ (repL (6 + d + 1) ["1"]).map V.str))) := same_new hD5 _
  have eD5 : (upd H10 D5 (.lst ((headL i).map V.str ++ (repL (6 + d) ["+"]).map V.str ++ (repL (6 + d + 1) ["1"]).map V.str))) D5 = some (.lst ((headL i).map V.str ++ (repL (6 + d) ["+"]).map V.str ++ (repL (6 + d + 1) ["1"]).map V.str)) := upd_same
  revert s11 eD5
  generalize upd H10 D5 (.lst ((headL i).map V.str ++ (repL (6 + d) ["+"]).map V.str ++ (repL (6 + d + 1) ["1"]).map V.str)) = H11
  intro s11 eD5
  have m11 := m10.trans s11
  refine ⟨_, rfl, D5, br, _, _, rfl, rfl, eD5, s11 _ _ (s10 _ _ (s9 _ _ (s8 _ _ (s7 _ _ (s6 _ _ er))))), big _ (by simp only [List.length_append, List.length_map, rep_len, List.length_cons, List.length_nil]; omega), fun D6 hD6 => ?_⟩
  have s12 : Same H11 (upd H11 D6 (.lst ((headL i).map V.str ++ (repL (6 + d) ["+"]).map V.str ++ (repL (6 + d + 1) ["1"]).map V.str ++ (restL i).map V.str))) := same_new hD6 _
  have eD6 : (upd H11 D6 (.lst ((headL i).map V.str ++ (repL (6 + d) ["+"]).map V.str ++ (repL (6 + d + 1) ["1"]).map V.str ++ (restL i).map V.str))) D6 = some (.lst ((leftL i (6 + d)).map V.str)) := by
    rw [upd_same]
    unfold leftL
    simp only [List.map_append]
  revert s12 eD6
  generalize upd H11 D6 (.lst ((headL i).map V.str ++ (repL (6 + d) ["+"]).map V.str ++ (repL (6 + d + 1) ["1"]).map V.str ++ (restL i).map V.str)) = H12
  intro s12 eD6
  have m12 := m11.trans s12
  have er12 : H12 br = some (.lst ((restL i).map V.str)) := s12 _ _ (s11 _ _ (s10 _ _ (s9 _ _ (s8 _ _ (s7 _ _ (s6 _ _ er))))))
  clear eD0 eD1 eD2 eD3 eD4 eD5 s6 s7 s8 s9 s10 s11 hD0 hD1 hD2 hD3 hD4 hD5
  refine ⟨_, rfl, _, rfl, A3, _, _, _, rfl, rfl, sqT_mono m12 f3, ea, big 2 (by decide), fun D7 hD7 => ?_⟩
  have s13 : Same H12 (upd H12 D7 (.lst [V.str "+", V.str "1"])) := same_new hD7 _
  have eD7 : (upd H12 D7 (.lst [V.str "+", V.str "1"])) D7 = some (.lst [V.str "+", V.str "1"]) := upd_same
  revert s13 eD7
  generalize upd H12 D7 (.lst [V.str "+", V.str "1"]) = H13
  intro s13 eD7
  have m13 := m12.trans s13
  refine ⟨_, rfl, D7, _, _, rfl, rfl, eD7, by omega, by omega, big _ (by show 2 * _ ≤ 100000; omega), fun D8 hD8 => ?_⟩
  have s14 : Same H13 (upd H13 D8 (.lst (List.replicate (((((6 + d : Nat)) : Int))).toNat [V.str "+", V.str "1"]).flatten)) := same_new hD8 _
  have eD8 : (upd H13 D8 (.lst (List.replicate (((((6 + d : Nat)) : Int))).toNat [V.str "+", V.str "1"]).flatten)) D8 = some (.lst ((repL (6 + d) ["+", "1"]).map V.str)) := (upd_same).trans (congrArg (fun z => some (HO.lst z)) (rep_map (6 + d) ["+", "1"]))
  revert s14 eD8
  generalize upd H13 D8 (.lst (List.replicate (((((6 + d : Nat)) : Int))).toNat [V.str "+", V.str "1"]).flatten) = H14
  intro s14 eD8
  have m14 := m13.trans s14
  refine ⟨ah, D8, _, _, rfl, rfl, m14 _ _ eh, eD8, big _ (by simp only [List.length_map, rep_len, List.length_cons, List.length_nil]; omega), fun D9 hD9 => ?_⟩
  have s15 : Same H14 (upd H14 D9 (.lst ((headL i).map V.str ++ (repL (6 + d) ["+", "1"]).map V.str))) := same_new hD9 _
  have eD9 : (upd H14 D9 (.lst ((headL i).map V.str ++ (repL (6 + d) ["+", "1"]).map V.str))) D9 = some (.lst ((headL i).map V.str ++ (repL (6 + d) ["+", "1"]).map V.str)) := upd_same
  revert s15 eD9
  generalize upd H14 D9 (.lst ((headL i).map V.str ++ (repL (6 + d) ["+", "1"]).map V.str)) = H15
  intro s15 eD9
  have m15 := m14.trans s15
  refine ⟨big 1 (by decide), fun D10 hD10 => ?_⟩
  have s16 : Same H15 (upd H15 D10 (.lst [V.str "last"])) := same_new hD10 _
  have eD10 : (upd H15 D10 (.lst [V.str "last"])) D10 = some (.lst [V.str "last"]) := upd_same
  revert s16 eD10
  generalize upd H15 D10 (.lst [V.str "last"]) = H16
  intro s16 eD10
  have m16 := m15.trans s16
  refine ⟨D9, D10, _, _, rfl, rfl, s16 _ _ eD9, eD10, big _ (by simp only [List.length_append, List.length_map, rep_len, List.length_cons, List.length_nil]; omega), fun D11 hD11 => ?_⟩
  have s17 : Same H16 (upd H16 D11 (.lst ((headL i).map V.str ++ (repL (6 + d) ["+", "1"]).map V.str ++ [V.str "last"]))) := same_new hD11 _
  have eD11 : (upd H16 D11 (.lst ((headL i).map V.str ++ (repL (6 + d) ["+", "1"]).map V.str ++ [V.str "last"]))) D11 = some (.lst ((headL i).map V.str ++ (repL (6 + d) ["+", "1"]).map V.str ++ [V.str "last"])) := upd_same
  revert s17 eD11
  generalize upd H16 D11 (.lst ((headL i).map V.str ++ (repL (6 + d) ["+", "1"]).map V.str ++ [V.str "last"])) = H17
  intro s17 eD11
  have m17 := m16.trans s17
  refine ⟨_, rfl, D11, br, _, _, rfl, rfl, eD11, s17 _ _ (s16 _ _ (s15 _ _ (s14 _ _ (s13 _ _ er12)))), big _ (by simp only [List.length_append, List.length_map, rep_len, List.length_cons, List.length_nil]; omega), fun D12 hD12 => ?_⟩
  have s18 : Same H17 (upd H17 D12 (.lst ((headL i).map V.str ++ (repL (6 + d) ["+", "1"]).map V.str ++ [V.str "last"] ++ (restL i).map V.str))) := same_new hD12 _
  have eD12 : (upd H17 D12 (.lst ((headL i).map V.str ++ (repL (6 + d) ["+", "1"]).map V.str ++ [V.str "last"] ++ (restL i).map V.str))) D12 = some (.lst ((rightL i (6 + d)).map V.str)) := by
    rw [upd_same]
    unfold rightL
    simp only [List.map_append]
    rfl
  revert s18 eD12
  generalize upd H17 D12 (.lst ((headL i).map V.str ++ (repL (6 + d) ["+", "1"]).map V.str ++ [V.str "last"] ++ (restL i).map V.str)) = H18
  intro s18 eD12
  have m18 := m17.trans s18
  have eL : H18 D6 = some (.lst ((leftL i (6 + d)).map V.str)) := s18 _ _ (s17 _ _ (s16 _ _ (s15 _ _ (s14 _ _ (s13 _ _ eD6)))))
  refine ⟨_, rfl, _, rfl, big 2 (by decide), fun D13 hD13 => ?_⟩
  have s19 : Same H18 (upd H18 D13 (.tup [V.int (-3), V.int (-3)])) := same_new hD13 _
  have d19 : Dp K (upd H18 D13 (.tup [V.int (-3), V.int (-3)])) (.ref D13) (.tuple [.int (-3), .int (-3)]) := dp_tup hD13 (.cons (.int _) (.cons (.int _) .nil))
  revert s19 d19
  generalize upd H18 D13 (.tup [V.int (-3), V.int (-3)]) = H19
  intro s19 d19
  have m19 := m18.trans s19
  have eL9 := s19 _ _ eL
  have eR9 := s19 _ _ eD12
  refine ⟨_, rfl, _, _, rfl, rfl, _, rfl, ?_⟩
  refine if_rest (fun σ H' => ∃ Dt : Addr, σ = [some (.int (((19 + c : Nat)) : Int)), some (.int (((6 + d : Nat)) : Int)), some (.ref L0), some (.int (if 20 < 19 + c then 100 else -3)), some (.ref A3), some (.int (0 + (i : Int))), some (.ref br), some (.ref D6), some (.ref D12), some (.ref Dt)] ∧ Same H19 H' ∧ Dp K H' (.ref Dt) (.tuple [.int (dueL i (6 + d)).1, .int (dueL i (6 + d)).2])) ?_ ?_ ?_
  rotate_left
  · intro z rest
    have z := of_decide_eq_true z
    refine ⟨_, rfl, _, rfl, A3, _, _, _, rfl, rfl, sqT_mono m19 f3, ea, ah, _, rfl, .inl (SqL.of (m19 _ _ eh)), _, _, rfl, rfl, ?_⟩
    refine ⟨_, rfl, _, rfl, A3, _, _, _, rfl, rfl, sqT_mono m19 f3, ea, ah, _, rfl, .inl (SqL.of (m19 _ _ eh)), _, _, rfl, rfl, big 2 (by decide), fun D14 hD14 => ?_⟩
    refine rest _ _ ⟨D14, rfl, same_new hD14 _, ?_⟩
    unfold dueL
    rw [if_pos (show 7 < 6 + d by omega)]
    refine dp_tup hD14 ?_
    rw [List.length_map]
    exact .cons (.int _) (.cons (.int _) .nil)
  · intro z
    refine ⟨D13, rfl, Same.refl _, ?_⟩
    unfold dueL
    rw [if_neg (show ¬ 7 < 6 + d from fun y => z (decide_eq_true (by omega)))]
    exact d19
  rintro σ H20 ⟨Dt, rfl, s20, d20⟩
  refine ⟨_, rfl, D6, _, rfl, SqL.of (s20 _ _ eL9), wsOkB_ok b3, fun H21 s21 => ?_⟩
  refine ⟨_, rfl, D12, _, rfl, SqL.of (s21 _ _ (s20 _ _ eR9)), wsOkB_ok b4, fun H22 s22 => ?_⟩
  rw [b1, b2]
  refine ⟨big 2 (by decide), fun D15 hD15 => ?_⟩
  have s23 := same_new hD15 (.tup [V.int (dueL i (6 + d)).1, V.int (dueL i (6 + d)).2])
  have dd : Dp K (upd H22 D15 (.tup [V.int (dueL i (6 + d)).1, V.int (dueL i (6 + d)).2])) (.ref D15) (.tuple [.int (dueL i (6 + d)).1, .int (dueL i (6 + d)).2]) := dp_tup hD15 (.cons (.int _) (.cons (.int _) .nil))
  refine ⟨_, rfl, _, _, dd, dp_mono (s21.trans (s22.trans s23)) _ _ d20, rfl, rfl, ?_⟩
  refine ⟨_, rfl, ?_⟩
  have ev : PyData.eqv (.tuple [.int (dueL i (6 + d)).1, .int (dueL i (6 + d)).2]) (.tuple [.int (dueL i (6 + d)).1, .int (dueL i (6 + d)).2]) = true := eqv_rfl _ rfl
  rw [ev]
  refine ite_no (by simp) ?_
  exact ⟨⟨_, _, _, _, _, rfl⟩, m19.trans (s20.trans (s21.trans (s22.trans s23)))⟩
end
end Toy
set_option Elab.async false
set_option linter.all false
set_option maxRecDepth 100000
set_option maxHeartbeats 4000000
namespace Toy
open PySem L2 NdefX Gm Pz
open Mine hiding same_new
theorem cut_take (xs : List V) (k : Nat) : cutV xs none (some (k : Int)) = xs.take k := by
  unfold cutV
  have e : HT.sIx xs.length xs.length (some (k : Int)) = min k xs.length := by
    have : ¬ ((k : Int) < 0) := by omega
    simp [HT.sIx, this]
    try omega
  rw [e, show HT.sIx xs.length 0 none = 0 from rfl, List.drop_zero, Nat.sub_zero]
  by_cases h : k ≤ xs.length
  · rw [Nat.min_eq_left h]
  · rw [Nat.min_eq_right (by omega), List.take_length, List.take_of_length_le (by omega)]
theorem cut_drop (xs : List V) (k : Nat) : cutV xs (some (k : Int)) none = xs.drop k := by
  unfold cutV
  have e : HT.sIx xs.length 0 (some (k : Int)) = min k xs.length := by
    have : ¬ ((k : Int) < 0) := by omega
    simp [HT.sIx, this]
    try omega
  rw [e, show HT.sIx xs.length xs.length none = xs.length from rfl]
  by_cases h : k ≤ xs.length
  · rw [Nat.min_eq_left h, List.take_of_length_le (by rw [List.length_drop]; exact Nat.le_refl _)]
  · rw [Nat.min_eq_right (by omega), Nat.sub_self, List.take_zero, List.drop_eq_nil_of_le (by omega)]
theorem cut_some (xs : List V) (j k : Nat) : cutV xs (some (j : Int)) (some (k : Int)) = (xs.take k).drop j := by
  unfold cutV
  have e1 : HT.sIx xs.length 0 (some (j : Int)) = min j xs.length := by
    have : ¬ ((j : Int) < 0) := by omega
    simp [HT.sIx, this]
    try omega
  have e2 : HT.sIx xs.length xs.length (some (k : Int)) = min k xs.length := by
    have : ¬ ((k : Int) < 0) := by omega
    simp [HT.sIx, this]
    try omega
  rw [e1, e2]
  apply List.ext_getElem?
  intro n
  simp only [List.getElem?_take, List.getElem?_drop]
  by_cases h : j ≤ xs.length
  · rw [Nat.min_eq_left h]
    by_cases h2 : j + n < k
    · rw [if_pos h2]
      by_cases h3 : n < min k xs.length - j
      · rw [if_pos h3]
      · rw [if_neg h3, List.getElem?_eq_none (by omega)]
    · rw [if_neg h2, if_neg (by omega)]
  · rw [if_neg (by omega)]
    split
    · rw [List.getElem?_eq_none (by omega)]
    · rfl
theorem tw_len : ∀ {k : Nat} {e : TX}, tGood k e = true → (tWords e).length + 1 ≤ 2 ^ k
  | 0, _, h => by cases h
  | k + 1, .num _, _ => by
    have : 1 ≤ 2 ^ k := Nat.one_le_two_pow
    show 1 + 1 ≤ 2 ^ (k + 1)
    rw [Nat.pow_succ]; omega
  | k + 1, .key _, _ => by
    have : 1 ≤ 2 ^ k := Nat.one_le_two_pow
    show 1 + 1 ≤ 2 ^ (k + 1)
    rw [Nat.pow_succ]; omega
  | k + 1, .op o a b, h => by
    unfold tGood at h
    rw [Bool.and_eq_true, Bool.and_eq_true] at h
    have ha := tw_len h.1.2
    have hb := tw_len h.2
    show (o :: (tWords a ++ tWords b)).length + 1 ≤ 2 ^ (k + 1)
    rw [List.length_cons, List.length_append, Nat.pow_succ]
    omega
theorem ru_len {r : Ru} (h : RuOk 4 r) : (ruWords r).length ≤ 48 := by
  have a := tw_len h.t
  have b := tw_len h.e
  have c := tw_len h.k
  have d : (dWords r).length ≤ 2 := by
    unfold dWords
    cases r.a <;> simp
  unfold ruWords
  simp only [List.length_cons, List.length_append]
  omega
theorem rs_len : ∀ {rs : List Ru}, (∀ r ∈ rs, RuOk 4 r) → (rsWords rs).length ≤ 48 * rs.length
  | [], _ => Nat.le_refl _
  | r :: rs, h => by
    have a := ru_len (h r (List.mem_cons_self ..))
    have b := rs_len fun x hx => h x (List.mem_cons_of_mem _ hx)
    show (ruWords r ++ rsWords rs).length ≤ 48 * (rs.length + 1)
    rw [List.length_append]
    omega
def wd1 (w : Str) : Bool := decide (w.length ≤ 20) && !(signs w).any (fun c => decide (c = 32))
theorem wd1_num {n : Int} (h : 0 ≤ n ∧ n ≤ 65535) : wd1 (numS n) = true := by
  obtain ⟨m, rfl⟩ : ∃ m : Nat, n = m := ⟨n.toNat, by omega⟩
  unfold wd1
  rw [Bool.and_eq_true, Bool.not_eq_true']
  refine ⟨decide_eq_true ?_, List.any_eq_false.mpr fun c hc => ?_⟩
  · rw [← len_signs, signs_numS]
    have := TL.numL_len (n := m) (k := 5) (by decide) (by omega)
    omega
  · rw [signs_numS] at hc
    have := TL.numL_digits m c hc
    simp
    omega
theorem wd1_name {x : Str} (h : isName x = true) : wd1 x = true := by
  unfold isName at h
  simp only [Bool.and_eq_true, decide_eq_true_eq] at h
  unfold wd1
  rw [Bool.and_eq_true, Bool.not_eq_true']
  refine ⟨decide_eq_true (by omega), List.any_eq_false.mpr fun c hc => ?_⟩
  have h3 := List.all_eq_true.mp h.2 c hc
  simp only [decide_eq_true_eq]
  intro z
  rw [z] at h3
  exact absurd h3 (by decide +kernel)
theorem wd1_tx : ∀ {k : Nat} {e : TX}, tGood k e = true → ∀ w ∈ tWords e, wd1 w = true
  | 0, _, h => by cases h
  | k + 1, .num n, h => fun w hw => by
    rw [List.mem_singleton.mp hw]
    exact wd1_num (of_decide_eq_true h)
  | k + 1, .key x, h => fun w hw => by
    rw [List.mem_singleton.mp hw]
    exact (by decide +kernel : ∀ x ∈ knw, wd1 x = true) x (of_decide_eq_true h)
  | k + 1, .op o a b, h => fun w hw => by
    unfold tGood at h
    rw [Bool.and_eq_true, Bool.and_eq_true] at h
    rcases List.mem_cons.mp hw with rfl | hw
    · exact (by decide +kernel : ∀ x ∈ ops, wd1 x = true) _ (of_decide_eq_true h.1.1)
    · rcases List.mem_append.mp hw with hw | hw
      · exact wd1_tx h.1.2 w hw
      · exact wd1_tx h.2 w hw
theorem wd1_rs {rs : List Ru} {k : Nat} (g : ∀ r ∈ rs, RuOk k r) : ∀ w ∈ rsWords rs, wd1 w = true := by
  intro w hw
  obtain ⟨r, hr, hw⟩ := List.mem_flatMap.mp hw
  have gr := g r hr
  unfold ruWords at hw
  rcases List.mem_cons.mp hw with rfl | hw
  · decide +kernel
  rcases List.mem_append.mp hw with hw | hw
  · exact wd1_tx gr.t w hw
  rcases List.mem_append.mp hw with hw | hw
  · unfold dWords at hw
    cases e : r.a with
    | none =>
      rw [e] at hw
      rw [List.mem_singleton.mp hw]
      decide +kernel
    | some p =>
      rw [e] at hw
      rcases List.mem_cons.mp hw with rfl | hw
      · decide +kernel
      · rw [List.mem_singleton.mp hw]
        exact wd1_name (gr.a p e)
  rcases List.mem_append.mp hw with hw | hw
  · exact wd1_tx gr.e w hw
  · exact wd1_tx gr.k w hw
theorem wd1_ok {w : Str} (h : wd1 w = true) : w.length ≤ 20 ∧ 32 ∉ signs w := by
  unfold wd1 at h
  rw [Bool.and_eq_true, Bool.not_eq_true'] at h
  refine ⟨of_decide_eq_true h.1, fun z => ?_⟩
  have := List.any_eq_false.mp h.2 32 z
  simp at this
theorem wsOk_of {ws : List Str} (n : ws.length ≤ 10000) (h : ∀ w ∈ ws, wd1 w = true) (e : ws ≠ [("" : Str)]) : WsOk ws := ⟨n, fun w hw => (wd1_ok (h w hw)).1, fun w hw => (wd1_ok (h w hw)).2, e⟩
theorem oddW_wd1 {w : Str} (h : oddW w = true) : wd1 w = true ∧ Odd w := by
  unfold oddW at h
  rw [Bool.and_eq_true, Bool.and_eq_true] at h
  exact ⟨by unfold wd1; rw [h.2, h.1.2]; rfl, oddB_ok h.1.1⟩
theorem rs_ne {rs : List Ru} : rsWords rs ≠ [("" : Str)] := by
  cases rs with
  | nil => exact fun h => by cases h
  | cons r rs =>
    intro h
    have h : ("when" : Str) :: (tWords r.t ++ (dWords r ++ (tWords r.e ++ tWords r.k)) ++ rsWords rs) = [("" : Str)] := h
    injection h with h _
    exact absurd h (by decide +kernel)
theorem rs_wsOk {rs : List Ru} (l : rs.length ≤ 6) (g : ∀ r ∈ rs, RuOk 4 r) : WsOk (rsWords rs) := wsOk_of (by have := rs_len g; omega) (wd1_rs g) rs_ne
end Toy
set_option Elab.async false
set_option linter.all false
set_option maxRecDepth 100000
set_option maxHeartbeats 2000000
/-! t + u of two tuples, whatever is empty. -/
namespace CatB
open PySem L2 Gm
def rCatB (K : PySem.W.Frag) : R2 := fun x y H Q => ∃ a b xs ys, x = .ref a ∧ y = .ref b ∧ SqT K H a xs ∧ SqT K H b ys ∧ xs.length + ys.length ≤ sizeLine ∧ ∀ p H', Same H H' → SqT K H' p (xs ++ ys) → Q (.ref p) H'
theorem op_catB {X : Cx} (K : PySem.W.Frag) (h : X.K = K) : OpR X (binaryOp .Add) (rCatB K) := by
  subst h
  intro pins s σ H x y v u Q I rx ry h
  obtain ⟨a, b, xs, ys, rfl, rfl, ha, hb, hz, q⟩ := h
  refine op_catA pins s σ H _ _ v u Q I rx ry ⟨a, b, xs, ys, rfl, rfl, ha, hb, hz, fun e => ?_, fun _ e => ?_, fun _ _ p hp => q p _ (same_new hp _) (SqT.of upd_same)⟩
  · refine q b H (Same.refl _) ?_
    rw [e]
    exact hb
  · refine q a H (Same.refl _) ?_
    rw [e, List.append_nil]
    exact ha
end CatB
set_option Elab.async false
set_option linter.all false
set_option maxRecDepth 100000
set_option maxHeartbeats 4000000
namespace Toy
open PySem L2 NdefX Gm Pz
open Mine hiding same_new
def spLaw (K : PySem.W.Frag) : Sp := fun vs H Q _ => ∃ (a : Addr) (ns : List Int), vs = [.ref a] ∧ SqL K H a (ns.map V.int) ∧ ns.length ≤ 63 ∧ ∀ H', Q (.bl true) H'
def nmd : List Str := ["p", "made", "when", "say", "last", "kept"]
theorem dpa_take {K : PySem.W.Frag} {H : Hp} : ∀ {vs : List V} {ds : List PyData} (n : Nat), DpAll K H vs ds → DpAll K H (vs.take n) (ds.take n)
  | _, _, 0, _ => by simpa using DpAll.nil
  | [], [], n + 1, _ => by simpa using DpAll.nil
  | v :: vs, d :: ds, n + 1, .cons h t => .cons h (dpa_take n t)
theorem dpa_drop {K : PySem.W.Frag} {H : Hp} : ∀ {vs : List V} {ds : List PyData} (n : Nat), DpAll K H vs ds → DpAll K H (vs.drop n) (ds.drop n)
  | _, _, 0, h => h
  | [], [], n + 1, _ => by simpa using DpAll.nil
  | v :: vs, d :: ds, n + 1, .cons h t => dpa_drop n t
theorem dpa_rev {K : PySem.W.Frag} {H : Hp} : ∀ {vs : List V} {ds : List PyData}, DpAll K H vs ds → DpAll K H vs.reverse ds.reverse
  | [], [], _ => by simpa using DpAll.nil
  | v :: vs, d :: ds, .cons h t => by
    rw [List.reverse_cons, List.reverse_cons]
    exact DpAll.app (dpa_rev t) (.cons h .nil)
theorem txop_ne (o : Str) (a b : TX) : TX.op o a b ≠ a := fun h => by
  have := congrArg sizeOf h
  simp at this
  omega
theorem sub_ne {rs : List Ru} {i : Nat} {x xo : Ru} (h : rs[i]? = some x) (n : xo ≠ x) : rs.take i ++ [xo] ++ rs.drop (i + 1) ≠ rs := fun e => by
  have hi : i < rs.length := Nat.lt_of_not_le fun z => by rw [List.getElem?_eq_none z] at h; cases h
  have h2 : (rs.take i ++ [xo] ++ rs.drop (i + 1))[i]? = some xo := by
    rw [List.append_assoc, List.getElem?_append_right (by rw [List.length_take]; omega), List.length_take, Nat.min_eq_left (by omega), Nat.sub_self]
    rfl
  rw [e, h] at h2
  exact n (Option.some.inj h2).symm
theorem mid_eq (rs : List Ru) (i : Nat) : rs.take i ++ (rs.take (i + 2)).drop i ++ rs.drop (i + 2) = rs := by
  have : rs.take i ++ (rs.take (i + 2)).drop i = rs.take (i + 2) := by
    have h := List.take_append_drop i (rs.take (i + 2))
    rw [List.take_take, Nat.min_eq_left (by omega)] at h
    exact h
  rw [this, List.take_append_drop]
theorem turn_ne {rs m : List Ru} {i : Nat} (l : m.length = ((rs.take (i + 2)).drop i).length) (n : m ≠ (rs.take (i + 2)).drop i) : rs.take i ++ m ++ rs.drop (i + 2) ≠ rs := fun e => by
  have h := e.trans (mid_eq rs i).symm
  rw [List.append_assoc, List.append_assoc] at h
  have h2 := List.append_cancel_left h
  exact n (List.append_inj h2 l).1
theorem tacMk {C : Addr} {K : PySem.W.Frag} {H : Hp} {t r dr : Addr} {ys : List V} {ss : List Ru} (ht : SqT K H t ys) (hd : DpAll K H ys (ss.map Ru.d)) (nr : H r = none) (nd : H dr = none) :
    Same H (upd (upd (upd H dr (.own r)) r (.ins C dr [])) r (.ins C dr [("rules", .ref t)])) ∧ TacAt C K (upd (upd (upd H dr (.own r)) r (.ins C dr [])) r (.ins C dr [("rules", .ref t)])) r ss := by
  have m : Same H (upd (upd (upd H dr (.own r)) r (.ins C dr [])) r (.ins C dr [("rules", .ref t)])) := fun b o e => by
    rw [upd_ne (ne_of_none e nr)]
    exact same_make nr nd b o e
  exact ⟨m, dr, t, upd_same, dp_mono m _ _ (.tup ht hd)⟩
theorem key_at : ∀ x ∈ Pz.keys, tacAt ["when", "1", "ask", x, "0", "0"] = 3 ∧ wsOkB ["when", "1", "ask", x, "0", "0"] = true := by decide +kernel
theorem rs_head {rs : List Ru} {x : Str} {r : List Str} (h : rsWords rs = x :: r) : x = "when" := by
  cases rs with
  | nil => cases h
  | cons a rs =>
    have h : ("when" : Str) :: (tWords a.t ++ (dWords a ++ (tWords a.e ++ tWords a.k)) ++ rsWords rs) = x :: r := h
    injection h with h _
    exact h.symm
theorem take_wsOk {rs : List Ru} (w : WsOk (rsWords rs)) (n : Nat) : WsOk ((rsWords rs).take n) := by
  refine ⟨by rw [List.length_take]; have := w.n; omega, fun x hx => w.w x (List.mem_of_mem_take hx), fun x hx => w.s x (List.mem_of_mem_take hx), fun e => ?_⟩
  cases h : rsWords rs with
  | nil => rw [h, List.take_nil] at e; cases e
  | cons x r =>
    have hx := rs_head h
    rw [h] at e
    cases n with
    | zero => cases e
    | succ n =>
      rw [List.take_succ_cons] at e
      injection e with e _
      rw [hx] at e
      exact absurd e (by decide +kernel)
theorem put_at {rs : List Ru} (l : rs.length ≤ 20) (g : ∀ r ∈ rs, RuOk 8 r) {w : Str} (o : Odd w) {n : Nat} (hn : n ≤ (rsWords rs).length) : tacAt ((rsWords rs).take n ++ [w] ++ (rsWords rs).drop n ++ (["x"] : List Str)) = n := by
  have lt : ((rsWords rs).take n).length = n := by rw [List.length_take]; omega
  have e : ∀ i, i ≤ n → wd ((rsWords rs).take n ++ [w] ++ (rsWords rs).drop n ++ (["x"] : List Str)) i = if i < n then wd (rsWords rs) i else w := by
    intro i hi
    unfold wd
    rw [List.getD_eq_getElem?_getD, List.getD_eq_getElem?_getD, List.append_assoc, List.append_assoc]
    by_cases c : i < n
    · rw [if_pos c, List.getElem?_append_left (by omega), List.getElem?_take, if_pos c]
    · rw [if_neg c, List.getElem?_append_right (by omega), lt, show i - n = 0 by omega]
      rfl
  rcases tac_cut l g hn (us := (rsWords rs).take n ++ [w] ++ (rsWords rs).drop n ++ (["x"] : List Str)) (fun i hi => by rw [e i (by omega), if_pos hi]) (by rw [e n (Nat.le_refl _), if_neg (by omega)]; exact o) with h | ⟨_, h⟩
  · exact h
  · simp only [List.length_append, lt, List.length_cons, List.length_nil] at h
    omega
theorem cut_at {rs : List Ru} (l : rs.length ≤ 20) (g : ∀ r ∈ rs, RuOk 8 r) {n : Nat} (hn : n ≤ (rsWords rs).length) : tacAt ((rsWords rs).take n) = n ∨ tacAt ((rsWords rs).take n) = -3 := by
  have e : ∀ i, i < n → wd ((rsWords rs).take n) i = wd (rsWords rs) i := fun i hi => by
    unfold wd
    rw [List.getD_eq_getElem?_getD, List.getD_eq_getElem?_getD, List.getElem?_take, if_pos hi]
  have e2 : wd ((rsWords rs).take n) n = Str.empty := by
    unfold wd
    rw [List.getD_eq_getElem?_getD, List.getElem?_take, if_neg (by omega)]
    rfl
  rcases tac_cut l g hn (us := (rsWords rs).take n) e (by rw [e2]; exact oddB_ok (by decide +kernel)) with h | ⟨h, _⟩
  · exact .inl h
  · exact .inr h
section
variable {P : Program} {w : World} {K : PySem.W.Frag} {mg : Str → Option Value} {base : Heap} {file : Str}
theorem ok_law (hP : PrF P file) (T : Txt K mg file) : FnOk P w K mg base CX0 60 T.a_law T.fd_law ["script"] (spLaw K) := by
  have G_law_cell : FnOk P w K mg base CX0 1 T.a_law_cell T.fd_law_cell ["script", "k"] (spCell K) := ok_cell T
  have G_law_rule : FnOk P w K mg base CX0 5 T.a_law_rule T.fd_law_rule ["cell", "procs"] (spLRule K) := ok_lrule T
  have G_law_all : FnOk P w K mg base CX0 11 T.a_law_all T.fd_law_all ["rules"] (spLAll K) := ok_lall T
  have G_Tactic_init : FnOk P w K mg base CX0 1 T.a_Tactic_init T.fd_Tactic_init ["self", "rules"] (spTInit T.C_Tactic K) := ok_tinit T
  have G_Tactic_eq : FnOk P w K mg base CX0 1 T.a_Tactic_eq T.fd_Tactic_eq ["self", "other"] (spTEq T.C_Tactic K) := ok_teq T
  have G_tactic_text : FnOk P w K mg base CX0 11 T.a_tactic_text T.fd_tactic_text ["tactic"] (spTText T.C_Tactic K) := ok_text T
  have G_read_tactic : FnOk P w K mg base (L2.CX P w) 16 T.a_read_tactic T.fd_read_tactic ["text"] (spTac T.C_Tactic T.C_BadText K) := tac_read hP T
  have G_law_at : FnOk P w K mg base CX0 18 T.a_law_at T.fd_law_at ["words"] (spAt K) := ok_at hP T
  have G_law_strange : FnOk P w K mg base CX0 1 T.a_law_strange T.fd_law_strange ["cell"] spStr := ok_str T
  have G_law_bounds : FnOk P w K mg base CX0 19 T.a_law_bounds T.fd_law_bounds ["count", "deep"] spBounds := ok_bounds hP T
  refine T.F_law.ok sc_law (fun vs H Q E h => ?_) (fun cdv A outer s H vs Q E hr h => ?_)
  · obtain ⟨a, ns, rfl, _⟩ := h
    rfl
  obtain ⟨sa, ns, rfl, hS, hn63, q⟩ := h
  refine ⟨_, (pss_cons (ps_set (i := 1) sc_law.nd rfl (Or.inr rfl) (pe_lst (pa_cons (pe_tup (pa_cons pe_str pa_nil)) (pa_cons (pe_tup (pa_cons pe_str pa_nil)) (pa_cons (pe_tup (pa_cons pe_str pa_nil)) (pa_cons (pe_tup (pa_cons pe_str pa_nil)) (pa_cons (pe_tup (pa_cons pe_str pa_nil)) (pa_cons (pe_tup (pa_cons pe_str pa_nil)) pa_nil))))))))
    (pss_cons (ps_setLc (i := 2) (own := [("cell", 3)]) (g := gName 3) (tt := tYes) rfl sc_law.nd rfl rfl (sw_true rfl rfl rfl (by decide +kernel)) (pi_list (pe_slice sl_list (pv 0) po_none (po_some pe_int))) (blkOk_by (own := [("cell", 3)]) (N := ["script", "named", "rules", "cell", "words", "tactic", "at", "one", "other", "turned", "keys", "word"]) (sc := defScope s_law) (by decide +kernel)) (fun _ _ _ _ _ => pg_name (i := 3) sc_law.nd rfl (Or.inl rfl)) (fun _ _ _ _ _ => pts_nil) (fun _ _ _ _ _ => (pe_call G_law_rule (hr.mono (by decide)) rfl T.g_law_rule T.k_law_rule T.b_law_rule .nil pass0 (pa_cons (pv 3) (pa_cons (pv 1) pa_nil)))))
    (pss_cons (ps_set (i := 4) sc_law.nd rfl (Or.inl rfl) (pe_call G_law_all (hr.mono (by decide)) rfl T.g_law_all T.k_law_all T.b_law_all .nil pass0 (pa_cons (pv 2) pa_nil)))
    (pss_cons (ps_set (i := 5) sc_law.nd rfl (Or.inl rfl) (pe_make T.mk_Tactic G_Tactic_init (hr.mono (by decide)) rfl T.g_Tactic T.b_Tactic_init .nil pass0 (pa_cons (pe_callTy call_tuple_of (by rfl) T.z_tuple (by decide +kernel) (pa_cons (pv 2) pa_nil)) pa_nil)))
    (pss_cons (ps_if (PW.pt (pw_or (pt_cmpR op_ne (pe_call G_tactic_text (hr.mono (by decide)) rfl T.g_tactic_text T.k_tactic_text T.b_tactic_text .nil pass0 (pa_cons (pv 5) pa_nil)) (pe_join pe_str (pv 4)) (nomark _)) (pw_or1 (pt_not (pt_cmpR (op_ownEq G_Tactic_eq (hr.mono (by decide)) T.b_Tactic_eq pass0 T.m_Tactic_eq.at_ T.m_Tactic_eq.fn) (pe_call G_read_tactic (hr.mono (by decide)) rfl T.g_read_tactic T.k_read_tactic T.b_read_tactic .nil passL (pa_cons (pe_join pe_str (pv 4)) pa_nil)) (pv 5) (nomark _))))))
      (pss_one (ps_ret pe_bl))
      pss_nil)
    (pss_cons (ps_if (pt_cmpR (op_neD hr.units) (pe_fld (pe_call G_read_tactic (hr.mono (by decide)) rfl T.g_read_tactic T.k_read_tactic T.b_read_tactic .nil passL (pa_cons (pe_join pe_str (pv 4)) pa_nil)) rfl) (pe_callTy call_tuple_of (by rfl) T.z_tuple (by decide +kernel) (pa_cons (pv 2) pa_nil)) (nomark _))
      (pss_one (ps_ret pe_bl))
      pss_nil)
    (pss_cons (ps_for PassesOwn.never rfl (pi_range1 (by rfl) T.z_range (pa_cons (pe_callB call_len_seq (by rfl) T.z_len (by decide +kernel) (pa_cons (pv 2) pa_nil)) pa_nil)) (pg_name (i := 6) sc_law.nd rfl (Or.inl rfl))
      (pss_cons (ps_set (i := 7) sc_law.nd rfl (Or.inl rfl) (pe_ix ix_list (pv 2) (pv 6) (fun _ _ => rfl)))
    (pss_cons (ps_set (i := 8) sc_law.nd rfl (Or.inl rfl) (pe_tup (pa_cons (pe_ix ix_tup (pv 7) pe_int (fun _ _ => rfl)) (pa_cons (pe_ix ix_tup (pv 7) pe_int (fun _ _ => rfl)) (pa_cons (pe_tup (pa_cons pe_str (pa_cons (pe_ix ix_tup (pv 7) pe_int (fun _ _ => rfl)) (pa_cons (pe_tup (pa_cons pe_str (pa_cons pe_int pa_nil))) pa_nil)))) pa_nil)))))
    (pss_cons (ps_if (pt_cmpR op_eq (pe_op op_mod (pe_callTy call_int1 (by rfl) T.z_int (by decide +kernel) (pa_cons (pe_call G_law_cell (hr.mono (by decide)) rfl T.g_law_cell T.k_law_cell T.b_law_cell .nil pass0 (pa_cons (pv 0) (pa_cons pe_int pa_nil))) pa_nil)) pe_int) pe_int (nomark _))
      (pss_one (ps_set (i := 8) sc_law.nd rfl (Or.inl rfl) (pe_tup (pa_cons (pe_tup (pa_cons pe_str (pa_cons (pe_ix ix_tup (pv 7) pe_int (fun _ _ => rfl)) (pa_cons (pe_tup (pa_cons pe_str (pa_cons pe_int pa_nil))) pa_nil)))) (pa_cons (pe_ix ix_tup (pv 7) pe_int (fun _ _ => rfl)) (pa_cons (pe_ix ix_tup (pv 7) pe_int (fun _ _ => rfl)) pa_nil))))))
      pss_nil)
    (pss_cons (ps_if (pt_cmpR (op_ownEq G_Tactic_eq (hr.mono (by decide)) T.b_Tactic_eq pass0 T.m_Tactic_eq.at_ T.m_Tactic_eq.fn) (pe_make T.mk_Tactic G_Tactic_init (hr.mono (by decide)) rfl T.g_Tactic T.b_Tactic_init .nil pass0 (pa_cons (pe_op (CatB.op_catB K rfl) (pe_op (CatB.op_catB K rfl) (pe_callTy call_tuple_of (by rfl) T.z_tuple (by decide +kernel) (pa_cons (pe_slice sl_list (pv 2) po_none (po_some (pv 6))) pa_nil)) (pe_tup (pa_cons (pv 8) pa_nil))) (pe_callTy call_tuple_of (by rfl) T.z_tuple (by decide +kernel) (pa_cons (pe_slice sl_list (pv 2) (po_some (pe_op op_add (pv 6) pe_int)) po_none) pa_nil))) pa_nil)) (pv 5) (nomark _))
      (pss_one (ps_ret pe_bl))
      pss_nil)
    (pss_cons (ps_set (i := 9) sc_law.nd rfl (Or.inl rfl) (SlStep.pe_sliceS K rfl (pe_slice sl_list (pv 2) (po_some (pv 6)) (po_some (pe_op op_add (pv 6) pe_int))) (pe_un un_neg pe_int)))
    (pss_one (ps_if (PW.pt (pw_and (pt_cmpR (op_neD hr.units) (pv 9) (pe_slice sl_list (pv 2) (po_some (pv 6)) (po_some (pe_op op_add (pv 6) pe_int))) (nomark _)) (pw_and1 (pt_cmpR (op_ownEq G_Tactic_eq (hr.mono (by decide)) T.b_Tactic_eq pass0 T.m_Tactic_eq.at_ T.m_Tactic_eq.fn) (pe_make T.mk_Tactic G_Tactic_init (hr.mono (by decide)) rfl T.g_Tactic T.b_Tactic_init .nil pass0 (pa_cons (pe_callTy call_tuple_of (by rfl) T.z_tuple (by decide +kernel) (pa_cons (pe_op op_cat (pe_op op_cat (pe_slice sl_list (pv 2) po_none (po_some (pv 6))) (pv 9)) (pe_slice sl_list (pv 2) (po_some (pe_op op_add (pv 6) pe_int)) po_none)) pa_nil)) pa_nil)) (pv 5) (nomark _)))))
      (pss_one (ps_ret pe_bl))
      pss_nil))))))))
    (pss_cons (ps_set (i := 10) sc_law.nd rfl (Or.inl rfl) (pe_tup (pa_cons pe_str (pa_cons pe_str (pa_cons pe_str (pa_cons pe_str (pa_cons pe_str (pa_cons pe_str (pa_cons pe_str (pa_cons pe_str (pa_cons pe_str (pa_cons pe_str (pa_cons pe_str (pa_cons pe_str (pa_cons pe_str (pa_cons pe_str pa_nil))))))))))))))))
    (pss_cons (ps_for PassesOwn.never rfl (pi_tup (pe_op (CatB.op_catB K rfl) (pv 10) (pe_tup (pa_cons pe_str (pa_cons pe_str (pa_cons pe_str (pa_cons pe_str (pa_cons pe_str (pa_cons pe_str pa_nil))))))))) (pg_name (i := 11) sc_law.nd rfl (Or.inl rfl))
      (pss_one (ps_if (pt_cmpR op_ne (pe_call G_law_at (hr.mono (by decide)) rfl T.g_law_at T.k_law_at T.b_law_at .nil pass0 (pa_cons (pe_lst (pa_cons pe_str (pa_cons pe_str (pa_cons pe_str (pa_cons (pv 11) (pa_cons pe_str (pa_cons pe_str pa_nil))))))) pa_nil)) pe_int (nomark _))
      (pss_one (ps_ret pe_bl))
      pss_nil)))
    (pss_cons (ps_set (i := 6) sc_law.nd rfl (Or.inl rfl) (pe_op op_mod (pe_callTy call_int1 (by rfl) T.z_int (by decide +kernel) (pa_cons (pe_call G_law_cell (hr.mono (by decide)) rfl T.g_law_cell T.k_law_cell T.b_law_cell .nil pass0 (pa_cons (pv 0) (pa_cons pe_int pa_nil))) pa_nil)) (pe_op op_add (pe_callB call_len_seq (by rfl) T.z_len (by decide +kernel) (pa_cons (pv 4) pa_nil)) pe_int)))
    (pss_cons (ps_for PassesOwn.never rfl (pi_list (pe_call G_law_strange (hr.mono (by decide)) rfl T.g_law_strange T.k_law_strange T.b_law_strange .nil pass0 (pa_cons (pe_callB call_abs (by rfl) T.z_abs (by decide +kernel) (pa_cons (pe_call G_law_cell (hr.mono (by decide)) rfl T.g_law_cell T.k_law_cell T.b_law_cell .nil pass0 (pa_cons (pv 0) (pa_cons pe_int pa_nil))) pa_nil)) pa_nil))) (pg_name (i := 11) sc_law.nd rfl (Or.inl rfl))
      (pss_one (ps_if (pt_cmpR op_ne (pe_call G_law_at (hr.mono (by decide)) rfl T.g_law_at T.k_law_at T.b_law_at .nil pass0 (pa_cons (pe_op op_cat (pe_op op_cat (pe_op op_cat (pe_slice sl_list (pv 4) po_none (po_some (pv 6))) (pe_lst (pa_cons (pv 11) pa_nil))) (pe_slice sl_list (pv 4) (po_some (pv 6)) po_none)) (pe_lst (pa_cons pe_str pa_nil))) pa_nil)) (pv 6) (nomark _))
      (pss_one (ps_ret pe_bl))
      pss_nil)))
    (pss_cons (ps_if (PW.pt (pw_and (pt_cmpR op_ne (pe_call G_law_at (hr.mono (by decide)) rfl T.g_law_at T.k_law_at T.b_law_at .nil pass0 (pa_cons (pe_slice sl_list (pv 4) po_none (po_some (pv 6))) pa_nil)) (pv 6) (nomark _)) (pw_and1 (pt_cmpR op_ne (pe_call G_law_at (hr.mono (by decide)) rfl T.g_law_at T.k_law_at T.b_law_at .nil pass0 (pa_cons (pe_slice sl_list (pv 4) po_none (po_some (pv 6))) pa_nil)) (pe_un un_neg pe_int) (nomark _)))))
      (pss_one (ps_ret pe_bl))
      pss_nil)
    (pss_one (ps_ret (pe_call G_law_bounds (hr.mono (by decide)) rfl T.g_law_bounds T.k_law_bounds T.b_law_bounds .nil pass0 (pa_cons (pe_op op_add pe_int (pe_op op_mod (pe_callTy call_int1 (by rfl) T.z_int (by decide +kernel) (pa_cons (pe_call G_law_cell (hr.mono (by decide)) rfl T.g_law_cell T.k_law_cell T.b_law_cell .nil pass0 (pa_cons (pv 0) (pa_cons pe_int pa_nil))) pa_nil)) pe_int)) (pa_cons (pe_op op_add pe_int (pe_op op_mod (pe_op op_fdivW (pe_callTy call_int1 (by rfl) T.z_int (by decide +kernel) (pa_cons (pe_call G_law_cell (hr.mono (by decide)) rfl T.g_law_cell T.k_law_cell T.b_law_cell .nil pass0 (pa_cons (pv 0) (pa_cons pe_int pa_nil))) pa_nil)) pe_int) pe_int)) pa_nil))))))))))))))))), ?_⟩
  have big : ∀ n : Nat, n ≤ 100000 → n ≤ sizeLine := fun n h => Nat.le_trans h (by decide)
  refine ⟨big 1 (by decide), fun t0 ht0 => ?_⟩
  have c0 := same_new ht0 (.tup [V.str "p"])
  refine ⟨big 1 (by decide), fun t1 ht1 => ?_⟩
  have c1 := same_new ht1 (.tup [V.str "made"])
  refine ⟨big 1 (by decide), fun t2 ht2 => ?_⟩
  have c2 := same_new ht2 (.tup [V.str "when"])
  refine ⟨big 1 (by decide), fun t3 ht3 => ?_⟩
  have c3 := same_new ht3 (.tup [V.str "say"])
  refine ⟨big 1 (by decide), fun t4 ht4 => ?_⟩
  have c4 := same_new ht4 (.tup [V.str "last"])
  refine ⟨big 1 (by decide), fun t5 ht5 => ?_⟩
  have c5 := same_new ht5 (.tup [V.str "kept"])
  refine ⟨big 6 (by decide), fun tn htn => ?_⟩
  have cn := same_new htn (.lst [V.ref t0, V.ref t1, V.ref t2, V.ref t3, V.ref t4, V.ref t5])
  have hN : NamesAt K (upd (upd (upd (upd (upd (upd (upd H t0 (.tup [V.str "p"])) t1 (.tup [V.str "made"])) t2 (.tup [V.str "when"])) t3 (.tup [V.str "say"])) t4 (.tup [V.str "last"])) t5 (.tup [V.str "kept"])) tn (.lst [V.ref t0, V.ref t1, V.ref t2, V.ref t3, V.ref t4, V.ref t5])) tn [V.ref t0, V.ref t1, V.ref t2, V.ref t3, V.ref t4, V.ref t5] nmd := by
    refine ⟨SqL.of upd_same, ?_, by decide, by decide +kernel⟩
    exact (.cons (dp_mono (c1.trans (c2.trans (c3.trans (c4.trans (c5.trans cn))))) _ _ (dp_tup ht0 (.cons (.str _) .nil))) (.cons (dp_mono (c2.trans (c3.trans (c4.trans (c5.trans cn)))) _ _ (dp_tup ht1 (.cons (.str _) .nil))) (.cons (dp_mono (c3.trans (c4.trans (c5.trans cn))) _ _ (dp_tup ht2 (.cons (.str _) .nil))) (.cons (dp_mono (c4.trans (c5.trans cn)) _ _ (dp_tup ht3 (.cons (.str _) .nil))) (.cons (dp_mono (c5.trans cn) _ _ (dp_tup ht4 (.cons (.str _) .nil))) (.cons (dp_mono cn _ _ (dp_tup ht5 (.cons (.str _) .nil))) .nil))))))
  have mN : Same H (upd (upd (upd (upd (upd (upd (upd H t0 (.tup [V.str "p"])) t1 (.tup [V.str "made"])) t2 (.tup [V.str "when"])) t3 (.tup [V.str "say"])) t4 (.tup [V.str "last"])) t5 (.tup [V.str "kept"])) tn (.lst [V.ref t0, V.ref t1, V.ref t2, V.ref t3, V.ref t4, V.ref t5])) := (c0.trans (c1.trans (c2.trans (c3.trans (c4.trans (c5.trans cn))))))
  revert hN mN
  generalize (upd (upd (upd (upd (upd (upd (upd H t0 (.tup [V.str "p"])) t1 (.tup [V.str "made"])) t2 (.tup [V.str "when"])) t3 (.tup [V.str "say"])) t4 (.tup [V.str "last"])) t5 (.tup [V.str "kept"])) tn (.lst [V.ref t0, V.ref t1, V.ref t2, V.ref t3, V.ref t4, V.ref t5])) = H0
  intro hN mN
  clear c0 c1 c2 c3 c4 c5 cn
  have hS0 := mN.seq hS
  refine ⟨_, rfl, _, rfl, sa, _, rfl, hS0, fun p1 hp1 => ?_⟩
  have m1 := same_new hp1 (.lst (cutV (ns.map V.int) none (some 6)))
  have e1 : (upd H0 p1 (.lst (cutV (ns.map V.int) none (some 6)))) p1 = some (.lst ((ns.take 6).map V.int)) := by
    rw [upd_same, show (some (6 : Int)) = some (((6 : Nat)) : Int) from rfl, cut_take, List.map_take]
  revert m1 e1
  generalize upd H0 p1 (.lst (cutV (ns.map V.int) none (some 6))) = H1
  intro m1 e1
  refine ⟨p1, rfl, ⟨_, SqL.of e1⟩, fun D hD => ?_⟩
  refine lc_it walk_list (fun t H' => ∃ (vs : List V) (rs : List Ru), Acc K H1 H' D vs (rs.map Ru.d) ∧ rs.length = t ∧ ∀ r ∈ rs, RuOk 4 r) ⟨[], [], Acc.start hD, rfl, fun r hr => by cases hr⟩ (fun _ H' _ h => by
    obtain ⟨vs, rs, ac, _⟩ := h
    exact ac.s.seq (SqL.of e1)) ?_ ?_
  · rintro t y H2 H3 ht ⟨vs, rs, ac, hl, g⟩ ⟨rfl, ey⟩
    refine ⟨rfl, ?_⟩
    rw [List.getElem?_map] at ey
    obtain ⟨n, en, rfl⟩ := Option.map_eq_some_iff.mp ey
    have ht6 : t < 6 := by
      rw [List.length_map, List.length_take] at ht
      omega
    refine ⟨_, rfl, _, rfl, n, tn, _, nmd, rfl, hN.same (m1.trans ac.s), fun v r H4 m4 dv gr => ?_⟩
    have ac2 := ac.grow m4
    have ln := ac2.len
    rw [List.length_map] at ln
    refine ⟨vs, ac2.l, Nat.lt_of_le_of_lt (show vs.length ≤ 6 by omega) (by decide), vs ++ [v], rs ++ [r], ?_, by rw [List.length_append, hl]; rfl, fun x hx => ?_⟩
    · rw [List.map_append]
      exact ac2.add dv (Ru.nol r)
    · rcases List.mem_append.mp hx with hx | hx
      · exact g x hx
      · rw [List.mem_singleton.mp hx]
        exact gr
  rintro H2 ⟨vs, rs, ac, hl, g⟩
  have hl6 : rs.length ≤ 6 := by
    rw [hl, List.length_map, List.length_take]
    omega
  have g8 : ∀ r ∈ rs, RuOk 8 r := fun r hr => (g r hr).mono (by decide)
  have g20 : ∀ r ∈ rs, RuOk 20 r := fun r hr => (g r hr).mono (by decide)
  have wok := rs_wsOk hl6 g
  have hwl : (rsWords rs).length ≤ 288 := by have := rs_len g; omega
  have lv : vs.length = rs.length := ac.len.trans (List.length_map _)
  refine ⟨_, rfl, D, vs, rs, rfl, SqL.of ac.l, ac.d, g8, by omega, fun W H3 m3 hW eW => ?_⟩
  have eD3 := m3 _ _ ac.l
  have dD3 := dp_monoAll m3 _ _ ac.d
  have hS3 := (m1.trans (ac.s.trans m3)).seq hS0
  clear hN mN e1 m1 ac hl m3 hD hp1 htn
  refine ⟨_, rfl, D, vs, rfl, .inl ⟨SqL.of eD3, fun t ht => ?_⟩⟩
  have m4 := same_new ht (.tup vs)
  have dt : Dp K (upd H3 t (.tup vs)) (.ref t) (.tuple (rs.map Ru.d)) := dp_tup ht dD3
  have ht4 : SqT K (upd H3 t (.tup vs)) t vs := SqT.of upd_same
  have eD4 := m4 _ _ eD3
  have dD4 := dp_monoAll m4 _ _ dD3
  have eW4 := m4 _ _ eW
  have hS4 := m4.seq hS3
  revert dt ht4 eD4 dD4 eW4 hS4
  clear m4 eD3 dD3 eW hS3
  generalize upd H3 t (.tup vs) = H4
  intro dt ht4 eD4 dD4 eW4 hS4
  refine fun r dr hr' hdr nr => ⟨r, dr, t, vs, rfl, upd_same, sqT_mono (same_make hr' hdr) ht4, ⟨rfl, ?_⟩⟩
  have m5 : Same H4 (upd (upd (upd H4 dr (.own r)) r (.ins T.C_Tactic dr [])) r (.ins T.C_Tactic dr [("rules", .ref t)])) := fun b o e => by
    rw [upd_ne (ne_of_none e hr')]
    exact same_make hr' hdr b o e
  have hT5 : TacAt T.C_Tactic K (upd (upd (upd H4 dr (.own r)) r (.ins T.C_Tactic dr [])) r (.ins T.C_Tactic dr [("rules", .ref t)])) r rs := ⟨dr, t, upd_same, dp_mono m5 _ _ dt⟩
  have eD5 := m5 _ _ eD4
  have dD5 := dp_monoAll m5 _ _ dD4
  have eW5 := m5 _ _ eW4
  have hS5 := m5.seq hS4
  revert hT5 eD5 dD5 eW5 hS5
  clear m5 dt ht4 eD4 dD4 eW4 hS4
  generalize upd (upd (upd H4 dr (.own r)) r (.ins T.C_Tactic dr [])) r (.ins T.C_Tactic dr [("rules", .ref t)]) = H5
  intro hT5 eD5 dD5 eW5 hS5
  clear hr' hdr nr ht hW
  have hj := join_small wok
  -- the text, and what is read of it
  refine ⟨_, rfl, r, rs, rfl, hT5, g8, by omega, by have := sum_le wok.w; omega, fun H6 m6 => ?_⟩
  refine ⟨⟨_, rfl⟩, _, rfl, _, W, rsWords rs, rfl, rfl, .inl (SqL.of (m6 _ _ eW5)), hj, rfl, _, rfl, ?_⟩
  refine ite2 (fun z => absurd z (by unfold rsText; simp)) (fun _ => ?_)
  have fwd := (tac_fwd (rs := rs) (by omega) g8).1
  refine ⟨⟨_, rfl⟩, _, rfl, _, W, rsWords rs, rfl, rfl, .inl (SqL.of (m6 _ _ eW5)), hj, _, rfl, Nat.le_trans wok.len (by decide), ?_, ?_, ?_⟩
  · rw [toWords_join wok]
    omega
  · rw [toWords_join wok]
    intro x hx
    have := wok.w x hx
    omega
  rw [toWords_join wok, fwd]
  intro r2 H7 m7 hT7
  have hT7r := hT5.same (m6.trans m7)
  obtain ⟨d2, t2, x2, y2⟩ := hT7
  obtain ⟨d1, t1, x1, y1⟩ := hT7r
  refine ⟨_, rfl, r2, r, _, _, _, _, rfl, rfl, x2, x1, r2, r, rs, rs, rfl, ⟨d2, t2, x2, y2⟩, ⟨d1, t1, x1, y1⟩, g20, g20, fun z hz => ?_⟩
  obtain rfl := hz.mpr rfl
  refine ⟨_, rfl, ite2 (fun z => absurd z (by decide)) (fun _ => ?_)⟩
  have m57 := m6.trans m7
  have hT7 := hT5.same m57
  have eD7 := m57 _ _ eD5
  have dD7 := dp_monoAll m57 _ _ dD5
  have eW7 := m57 _ _ eW5
  have hS7 := m57.seq hS5
  clear m6 m7 m57 x2 y2 x1 y1 hT5 eD5 dD5 eW5 hS5 hz
  -- its rules
  refine ⟨⟨_, rfl⟩, _, rfl, _, W, rsWords rs, rfl, rfl, .inl (SqL.of eW7), hj, _, rfl, Nat.le_trans wok.len (by decide), ?_, ?_, ?_⟩
  · rw [toWords_join wok]
    omega
  · rw [toWords_join wok]
    intro x hx
    have := wok.w x hx
    omega
  rw [toWords_join wok, fwd]
  intro r3 H8 m8 ⟨d3, t3, x3, y3⟩
  refine ⟨r3, _, d3, _, _, rfl, x3, T.cl_Tactic, T.na_Tactic_rules, rfl, _, rfl, D, vs, rfl, .inl ⟨SqL.of (m8 _ _ eD7), fun t4 ht4 => ?_⟩⟩
  have m9 := same_new ht4 (.tup vs)
  have hsh := (shaped_rs (k := 4) (by decide) g).1
  refine ⟨_, _, dp_mono m9 _ _ y3, dp_tup ht4 (dp_monoAll m8 _ _ dD7), hsh, hsh, ?_⟩
  rw [(rs_eqv rs rs).mpr rfl]
  refine ⟨_, rfl, ite2 (fun z => absurd z (by decide)) (fun _ => ?_)⟩
  have m79 := m8.trans m9
  have hT9 := hT7.same m79
  have eD9 := m79 _ _ eD7
  have dD9 := dp_monoAll m79 _ _ dD7
  have eW9 := m79 _ _ eW7
  have hS9 := m79.seq hS7
  revert hT9 eD9 dD9 eW9 hS9
  clear m8 m9 m79 x3 y3 hT7 eD7 dD7 eW7 hS7
  generalize upd H8 t4 (.tup vs) = H9
  intro hT9 eD9 dD9 eW9 hS9
  refine ⟨_, rfl, D, _, rfl, .inl (SqL.of eD9), _, rfl, by omega, by omega, for_range (lo := 0) (n := vs.length) (fun i σ H' => (∃ y6 y7 y8 y9, σ = [some (.ref sa), some (.ref tn), some (.ref D), none, some (.ref W), some (.ref r), y6, y7, y8, y9, none, none]) ∧ Same H9 H') ⟨⟨_, _, _, _, rfl⟩, Same.refl _⟩ ?_ ?_⟩
  · rintro i σ H10 hi ⟨⟨y6, y7, y8, y9, rfl⟩, m10⟩
    obtain ⟨x, er⟩ : ∃ x, rs[i]? = some x := ⟨rs[i]'(by omega), List.getElem?_eq_getElem _⟩
    obtain ⟨vx, evx, dx⟩ := DpAll.get dD9 (i := i) (d := Ru.d x) (by rw [List.getElem?_map, er]; rfl)
    have gx := g x (List.mem_of_getElem? er)
    unfold Ru.d at dx
    cases dx with
    | @tup b ws ds2 hs2 ha2 =>
    cases ha2 with
    | @cons vt _ _ _ h1 h2 =>
    cases h2 with
    | @cons vd _ _ _ h3 h4 =>
    cases h4 with
    | @cons vk _ _ _ h5 h6 =>
    cases h6
    refine ⟨_, rfl, _, rfl, D, _, _, _, rfl, rfl, SqL.of (m10 _ _ eD9), at_of (j := i) (by omega) evx, ?_⟩
    -- another rule
    have hs10 := sqT_mono m10 hs2
    refine ⟨_, rfl, b, _, 0, _, rfl, rfl, hs10, atI_nat (j := 0) rfl, _, rfl, b, _, 1, _, rfl, rfl, hs10, atI_nat (j := 1) rfl, _, rfl, b, _, 2, _, rfl, rfl, hs10, atI_nat (j := 2) rfl, big 2 (by decide), fun a1 ha1 => ?_⟩
    refine ⟨big 3 (by decide), fun a2 ha2 => ?_⟩
    refine ⟨big 3 (by decide), fun a3 ha3 => ?_⟩
    have n1 := same_new ha1 (.tup [V.str "number", V.int 1])
    have n2 := same_new ha2 (.tup [V.str "+", vk, V.ref a1])
    have n3 := same_new ha3 (.tup [vt, vd, V.ref a2])
    have dk : Dp K (upd (upd H10 a1 (.tup [V.str "number", V.int 1])) a2 (.tup [V.str "+", vk, V.ref a1])) (.ref a2) (TX.op "+" x.k (.num 1)).d := dp_tup ha2 (.cons (.str _) (.cons (dp_mono (m10.trans n1) _ _ h5) (.cons (dp_tup ha1 (.cons (.str _) (.cons (.int _) .nil))) .nil)))
    have do3 : Dp K (upd (upd (upd H10 a1 (.tup [V.str "number", V.int 1])) a2 (.tup [V.str "+", vk, V.ref a1])) a3 (.tup [vt, vd, V.ref a2])) (.ref a3) (Ru.mk x.t x.a x.e (.op "+" x.k (.num 1))).d := dp_tup ha3 (.cons (dp_mono (m10.trans (n1.trans n2)) _ _ h1) (.cons (dp_mono (m10.trans (n1.trans n2)) _ _ h3) (.cons dk .nil)))
    have m11 := m10.trans (n1.trans (n2.trans n3))
    revert do3 m11
    clear n1 n2 n3 dk
    generalize upd (upd (upd H10 a1 (.tup [V.str "number", V.int 1])) a2 (.tup [V.str "+", vk, V.ref a1])) a3 (.tup [vt, vd, V.ref a2]) = H11
    intro do3 m11
    clear ha1 ha2 ha3
    have g1 : ∀ e : TX, tGood 4 e = true → tGood 5 (.op "+" e (.num 1)) = true := fun e h => by
      unfold tGood
      rw [h]
      decide +kernel
    refine ⟨_, rfl, sa, ns, 6, rfl, m11.seq hS9, by decide, .inl ⟨_, rfl, _, _, rfl, rfl, (by show (0 : Int) < 2; decide), rfl, _, rfl, ?_⟩⟩
    refine if_rest (fun σ H12 => ∃ (xo : Ru) (vo : V), σ = [some (.ref sa), some (.ref tn), some (.ref D), none, some (.ref W), some (.ref r), some (.int (0 + (i : Int))), some (.ref b), some vo, y9, none, none] ∧ Same H9 H12 ∧ Dp K H12 vo xo.d ∧ RuOk 5 xo ∧ xo ≠ x) ?_ ?_ ?_
    rotate_left
    · intro _ rest
      have hs11 := sqT_mono m11 hs2
      refine ⟨_, rfl, b, _, 0, _, rfl, rfl, hs11, atI_nat (j := 0) rfl, big 2 (by decide), fun c1 hc1 => ?_⟩
      refine ⟨big 3 (by decide), fun c2 hc2 => ?_⟩
      have k1 := same_new hc1 (.tup [V.str "number", V.int 1])
      have k2 := same_new hc2 (.tup [V.str "+", vt, V.ref c1])
      have k12 := k1.trans k2
      have hs12 := sqT_mono k12 hs11
      refine ⟨_, rfl, b, _, 1, _, rfl, rfl, hs12, atI_nat (j := 1) rfl, _, rfl, b, _, 2, _, rfl, rfl, hs12, atI_nat (j := 2) rfl, big 3 (by decide), fun c3 hc3 => ?_⟩
      refine rest _ _ ⟨⟨.op "+" x.t (.num 1), x.a, x.e, x.k⟩, _, rfl, m11.trans (k12.trans (same_new hc3 _)), ?_, ⟨g1 _ gx.t, tGood_up gx.e, tGood_up gx.k, gx.a⟩, fun z => txop_ne _ _ _ (congrArg Ru.t z)⟩
      have mm := m11.trans k12
      exact dp_tup hc3 (.cons (dp_tup hc2 (.cons (.str _) (.cons (dp_mono (m11.trans k1) _ _ h1) (.cons (dp_tup hc1 (.cons (.str _) (.cons (.int _) .nil))) .nil)))) (.cons (dp_mono mm _ _ h3) (.cons (dp_mono mm _ _ h5) .nil)))
    · intro _
      exact ⟨_, _, rfl, m11, do3, ⟨tGood_up gx.t, tGood_up gx.e, g1 _ gx.k, gx.a⟩, fun z => txop_ne _ _ _ (congrArg Ru.k z)⟩
    rintro σ H12 ⟨xo, vo, rfl, m12, dvo, gxo, nxo⟩
    have hsz : vs.length ≤ 6 := by omega
    have eD12 := m12 _ _ eD9
    have dD12 := dp_monoAll m12 _ _ dD9
    have ei : (0 + (i : Int)) = ((i : Nat) : Int) := by omega
    have ei1 : ((i : Nat) : Int) + 1 = ((i + 1 : Nat) : Int) := by omega
    have ei2 : ((i : Nat) : Int) + 2 = ((i + 2 : Nat) : Int) := by omega
    -- one rule less, another one in its place
    refine ⟨_, rfl, _, rfl, _, rfl, D, _, rfl, SqL.of eD12, fun p1 hp1 => ?_⟩
    rw [ei, cut_take]
    have k1 := same_new hp1 (.lst (vs.take i))
    refine ⟨p1, _, rfl, .inl ⟨SqL.of upd_same, fun u1 hu1 => ?_⟩⟩
    have k2 := k1.trans (same_new hu1 (.tup (vs.take i)))
    refine ⟨_, rfl, big 1 (by decide), fun u2 hu2 => ?_⟩
    have k3 := same_new hu2 (.tup [vo])
    refine ⟨u1, u2, _, _, rfl, rfl, sqT_mono k3 (SqT.of upd_same), SqT.of upd_same, big _ (by rw [List.length_take]; show min i vs.length + 1 ≤ 100000; omega), fun q1 H13 n13 hq1 => ?_⟩
    have k13 := k2.trans (k3.trans n13)
    refine ⟨_, rfl, _, rfl, _, _, rfl, rfl, _, rfl, D, _, rfl, SqL.of (k13 _ _ eD12), fun p2 hp2 => ?_⟩
    rw [ei1, cut_drop]
    have k4 := same_new hp2 (.lst (vs.drop (i + 1)))
    refine ⟨p2, _, rfl, .inl ⟨SqL.of upd_same, fun u3 hu3 => ?_⟩⟩
    have k5 := k4.trans (same_new hu3 (.tup (vs.drop (i + 1))))
    refine ⟨q1, u3, _, _, rfl, rfl, sqT_mono k5 hq1, SqT.of upd_same, big _ (by rw [List.length_append, List.length_take, List.length_drop]; show min i vs.length + 1 + (vs.length - (i + 1)) ≤ 100000; omega), fun q2 H14 n14 hq2 => ?_⟩
    have k14 := k13.trans (k5.trans n14)
    have dq2 : DpAll K H14 (vs.take i ++ [vo] ++ vs.drop (i + 1)) ((rs.take i ++ [xo] ++ rs.drop (i + 1)).map Ru.d) := by
      have dd := dp_monoAll k14 _ _ dD12
      rw [List.map_append, List.map_append, List.map_take, List.map_drop]
      exact DpAll.app (DpAll.app (dpa_take i dd) (.cons (dp_mono k14 _ _ dvo) .nil)) (dpa_drop (i + 1) dd)
    refine fun r4 dr4 nr4 nd4 ne4 => ⟨r4, dr4, q2, _, rfl, upd_same, sqT_mono (same_make nr4 nd4) hq2, ⟨rfl, ?_⟩⟩
    obtain ⟨k6, hT4⟩ := tacMk (C := T.C_Tactic) hq2 dq2 nr4 nd4
    have k15 := k14.trans k6
    have hT15 := hT9.same (m12.trans k15)
    have m15 := m12.trans k15
    revert hT4 hT15 m15
    clear k6 k15 k14 k5 k4 k13 k3 k2 k1
    generalize upd (upd (upd H14 dr4 (.own r4)) r4 (.ins T.C_Tactic dr4 [])) r4 (.ins T.C_Tactic dr4 [("rules", .ref q2)]) = H15
    intro hT4 hT15 m15
    obtain ⟨da, ta, xa, ya⟩ := hT4
    obtain ⟨db, tb, xb, yb⟩ := hT15
    have gall : ∀ z ∈ rs.take i ++ [xo] ++ rs.drop (i + 1), RuOk 20 z := fun z hz => by
      rcases List.mem_append.mp hz with hz | hz
      · rcases List.mem_append.mp hz with hz | hz
        · exact g20 z (List.mem_of_mem_take hz)
        · rw [List.mem_singleton.mp hz]
          exact gxo.mono (by decide)
      · exact g20 z (List.mem_of_mem_drop hz)
    refine ⟨_, rfl, r4, r, _, _, _, _, rfl, rfl, xa, xb, r4, r, _, rs, rfl, ⟨da, ta, xa, ya⟩, ⟨db, tb, xb, yb⟩, gall, g20, fun z hz => ?_⟩
    obtain rfl : z = false := Bool.eq_false_iff.mpr fun y => sub_ne er nxo (hz.mp y)
    refine ⟨_, rfl, ite2 (fun z => absurd z (by decide)) (fun _ => ?_)⟩
    clear xa ya xb yb gall hz
    have eD15 := m15 _ _ eD9
    have dD15 := dp_monoAll m15 _ _ dD9
    -- two rules turned
    refine ⟨_, rfl, _, rfl, _, rfl, _, rfl, _, _, rfl, rfl, _, rfl, D, _, rfl, SqL.of eD15, fun p3 hp3 => ?_⟩
    rw [ei2, cut_some]
    have j1 := same_new hp3 (.lst ((vs.take (i + 2)).drop i))
    refine ⟨_, rfl, _, rfl, .inr rfl, p3, _, rfl, SqL.of upd_same, fun p4 hp4 => ?_⟩
    rw [if_neg (show ¬ (-1 : Int) = 1 by decide)]
    have j2 := j1.trans (same_new hp4 (.lst ((vs.take (i + 2)).drop i).reverse))
    have ep4 : (upd (upd H15 p3 (.lst ((vs.take (i + 2)).drop i))) p4 (.lst ((vs.take (i + 2)).drop i).reverse)) p4 = some (.lst ((vs.take (i + 2)).drop i).reverse) := upd_same
    have m16 := m15.trans j2
    have eD16 := j2 _ _ eD15
    have dD16 := dp_monoAll j2 _ _ dD15
    revert ep4 m16 eD16 dD16
    clear j1 j2 hp3 hp4
    generalize upd (upd H15 p3 (.lst ((vs.take (i + 2)).drop i))) p4 (.lst ((vs.take (i + 2)).drop i).reverse) = H16
    intro ep4 m16 eD16 dD16
    have hlm : ((vs.take (i + 2)).drop i).length ≤ 6 := by rw [List.length_drop, List.length_take]; omega
    have dM : DpAll K H16 ((vs.take (i + 2)).drop i) (((rs.take (i + 2)).drop i).map Ru.d) := by
      rw [List.map_drop, List.map_take]
      exact dpa_drop i (dpa_take (i + 2) dD16)
    have dR : DpAll K H16 ((vs.take (i + 2)).drop i).reverse (((rs.take (i + 2)).drop i).reverse.map Ru.d) := by
      rw [List.map_reverse]
      exact dpa_rev dM
    have gM : ∀ z ∈ (rs.take (i + 2)).drop i, z ∈ rs := fun z hz => List.mem_of_mem_take (List.mem_of_mem_drop hz)
    have gM4 : ∀ z ∈ (rs.take (i + 2)).drop i, RuOk 4 z := fun z hz => g z (gM z hz)
    have gR4 : ∀ z ∈ ((rs.take (i + 2)).drop i).reverse, RuOk 4 z := fun z hz => gM4 z (List.mem_reverse.mp hz)
    refine ⟨_, rfl, _, rfl, _, rfl, _, rfl, _, rfl, _, _, rfl, rfl, _, rfl, D, _, rfl, SqL.of eD16, fun p5 hp5 => ?_⟩
    rw [ei2, cut_some]
    have j3 := same_new hp5 (.lst ((vs.take (i + 2)).drop i))
    refine ⟨_, _, .lst (SqL.of (j3 _ _ ep4)) (dp_monoAll j3 _ _ dR), .lst (SqL.of upd_same) (dp_monoAll j3 _ _ dM), (shaped_rs (k := 4) (by decide) gR4).2, (shaped_rs (k := 4) (by decide) gM4).2, ?_⟩
    have m17 := m16.trans j3
    have ep17 := j3 _ _ ep4
    have eD17 := j3 _ _ eD16
    have dD17 := dp_monoAll j3 _ _ dD16
    have dR17 := dp_monoAll j3 _ _ dR
    revert m17 ep17 eD17 dD17 dR17
    clear j3 ep4 eD16 dD16 dR dM m16
    generalize upd H16 p5 (.lst ((vs.take (i + 2)).drop i)) = H17
    intro m17 ep17 eD17 dD17 dR17
    refine ⟨_, rfl, ite2 (fun z => ?_) (fun _ => ⟨⟨_, _, _, _, rfl⟩, m17⟩)⟩
    have nM : ((rs.take (i + 2)).drop i).reverse ≠ (rs.take (i + 2)).drop i := fun y => by
      rw [(rs_eqvL _ _).mpr y] at z
      exact absurd z (by decide)
    -- another order
    refine ⟨_, rfl, _, rfl, _, rfl, D, _, rfl, SqL.of eD17, fun p6 hp6 => ?_⟩
    rw [cut_take]
    have l1 := same_new hp6 (.lst (vs.take i))
    refine ⟨_, rfl, p6, p4, _, _, rfl, rfl, upd_same, l1 _ _ ep17, big _ (by rw [List.length_take, List.length_reverse]; omega), fun p7 hp7 => ?_⟩
    have l2 := l1.trans (same_new hp7 (.lst (vs.take i ++ ((vs.take (i + 2)).drop i).reverse)))
    refine ⟨_, rfl, _, rfl, _, _, rfl, rfl, _, rfl, D, _, rfl, SqL.of (l2 _ _ eD17), fun p8 hp8 => ?_⟩
    rw [ei2, cut_drop]
    have l3 := l2.trans (same_new hp8 (.lst (vs.drop (i + 2))))
    refine ⟨p7, p8, _, _, rfl, rfl, same_new hp8 _ _ _ upd_same, upd_same, big _ (by simp only [List.length_append, List.length_take, List.length_reverse, List.length_drop]; omega), fun p9 hp9 => ?_⟩
    have l4 := l3.trans (same_new hp9 (.lst (vs.take i ++ ((vs.take (i + 2)).drop i).reverse ++ vs.drop (i + 2))))
    refine ⟨p9, _, rfl, .inl ⟨SqL.of upd_same, fun u9 hu9 => ?_⟩⟩
    have l5 := l4.trans (same_new hu9 (.tup (vs.take i ++ ((vs.take (i + 2)).drop i).reverse ++ vs.drop (i + 2))))
    have hq9 : SqT K (upd (upd (upd (upd (upd H17 p6 (.lst (vs.take i))) p7 (.lst (vs.take i ++ ((vs.take (i + 2)).drop i).reverse))) p8 (.lst (vs.drop (i + 2)))) p9 (.lst (vs.take i ++ ((vs.take (i + 2)).drop i).reverse ++ vs.drop (i + 2)))) u9 (.tup (vs.take i ++ ((vs.take (i + 2)).drop i).reverse ++ vs.drop (i + 2)))) u9 (vs.take i ++ ((vs.take (i + 2)).drop i).reverse ++ vs.drop (i + 2)) := SqT.of upd_same
    revert l5 hq9
    clear l1 l2 l3 l4
    generalize upd (upd (upd (upd (upd H17 p6 (.lst (vs.take i))) p7 (.lst (vs.take i ++ ((vs.take (i + 2)).drop i).reverse))) p8 (.lst (vs.drop (i + 2)))) p9 (.lst (vs.take i ++ ((vs.take (i + 2)).drop i).reverse ++ vs.drop (i + 2)))) u9 (.tup (vs.take i ++ ((vs.take (i + 2)).drop i).reverse ++ vs.drop (i + 2))) = H18
    intro l5 hq9
    have dq9 : DpAll K H18 (vs.take i ++ ((vs.take (i + 2)).drop i).reverse ++ vs.drop (i + 2)) ((rs.take i ++ ((rs.take (i + 2)).drop i).reverse ++ rs.drop (i + 2)).map Ru.d) := by
      have dd := dp_monoAll l5 _ _ dD17
      rw [List.map_append, List.map_append, List.map_take, List.map_drop]
      exact DpAll.app (DpAll.app (dpa_take i dd) (dp_monoAll l5 _ _ dR17)) (dpa_drop (i + 2) dd)
    refine fun r5 dr5 nr5 nd5 ne5 => ⟨r5, dr5, u9, _, rfl, upd_same, sqT_mono (same_make nr5 nd5) hq9, ⟨rfl, ?_⟩⟩
    obtain ⟨l6, hT5'⟩ := tacMk (C := T.C_Tactic) hq9 dq9 nr5 nd5
    have m19 := m17.trans (l5.trans l6)
    have hT19 := hT9.same m19
    revert hT5' hT19 m19
    clear l6 l5
    generalize upd (upd (upd H18 dr5 (.own r5)) r5 (.ins T.C_Tactic dr5 [])) r5 (.ins T.C_Tactic dr5 [("rules", .ref u9)]) = H19
    intro hT5' m19 hT19
    obtain ⟨da, ta, xa, ya⟩ := hT5'
    obtain ⟨db, tb, xb, yb⟩ := hT19
    have gall : ∀ z ∈ rs.take i ++ ((rs.take (i + 2)).drop i).reverse ++ rs.drop (i + 2), RuOk 20 z := fun z hz => by
      rcases List.mem_append.mp hz with hz | hz
      · rcases List.mem_append.mp hz with hz | hz
        · exact g20 z (List.mem_of_mem_take hz)
        · exact (gR4 z hz).mono (by decide)
      · exact g20 z (List.mem_of_mem_drop hz)
    refine ⟨_, rfl, r5, r, _, _, _, _, rfl, rfl, xa, xb, r5, r, _, rs, rfl, ⟨da, ta, xa, ya⟩, ⟨db, tb, xb, yb⟩, gall, g20, fun z' hz' => ?_⟩
    obtain rfl : z' = false := Bool.eq_false_iff.mpr fun y => turn_ne (by rw [List.length_reverse]) nM (hz'.mp y)
    refine ⟨_, rfl, ite2 (fun z => absurd z (by decide)) (fun _ => ?_)⟩
    exact ⟨⟨_, _, _, _, rfl⟩, m19⟩
  rintro σ H20 ⟨⟨y6, y7, y8, y9, rfl⟩, m20⟩
  have eW20 := m20 _ _ eW9
  have hS20 := m20.seq hS9
  clear m20 eD9 dD9 hT9 eW9 hS9 H9 
  -- no key word names a procedure
  refine ⟨big 14 (by decide), fun tk htk => ?_⟩
  refine ⟨_, rfl, big 6 (by decide), fun tk2 htk2 => ?_⟩
  have w1 := same_new htk (.tup [V.str "var", V.str "table", V.str "lots", V.str "proc", V.str "local", V.str "set", V.str "let", V.str "draw", V.str "put", V.str "lot", V.str "ask", V.str "if", V.str "else", V.str "end"])
  have w2 := same_new htk2 (.tup [V.str "bad", V.str "after", V.str "answer", V.str "has", V.str "cell", V.str "mod"])
  refine ⟨tk, tk2, _, _, rfl, rfl, sqT_mono w2 (SqT.of upd_same), SqT.of upd_same, big 20 (by decide), fun tq H21 w3 htq => ?_⟩
  have w23 := w1.trans (w2.trans w3)
  have eW21 := w23 _ _ eW20
  have hS21 := w23.seq hS20
  clear w1 w2 w3 w23 eW20 hS20
  have htq : SqT K H21 tq (Pz.keys.map V.str) := htq
  refine ⟨tq, rfl, ⟨_, htq⟩, ?_⟩
  refine for_it walk_tup (fun t σ H' => (∃ y11, σ = [some (.ref sa), some (.ref tn), some (.ref D), none, some (.ref W), some (.ref r), y6, y7, y8, y9, some (.ref tk), y11]) ∧ Same H21 H') ⟨⟨_, rfl⟩, Same.refl _⟩ (fun t σ H' _ h => sqT_mono h.2 htq) ?_ ?_
  · rintro t y σ H22 H23 ht ⟨⟨y11, rfl⟩, m22⟩ ⟨rfl, ey⟩
    rw [List.getElem?_map] at ey
    obtain ⟨x, ex, rfl⟩ := Option.map_eq_some_iff.mp ey
    obtain ⟨k1, k2⟩ := key_at x (List.mem_of_getElem? ex)
    refine ⟨_, rfl, big 6 (by decide), fun L1 hL1 => ?_⟩
    have n1 := same_new hL1 (.lst ((["when", "1", "ask", x, "0", "0"] : List Str).map V.str))
    refine ⟨L1, ["when", "1", "ask", x, "0", "0"], rfl, SqL.of upd_same, wsOkB_ok k2, fun H24 n2 => ?_⟩
    rw [k1]
    refine ⟨rfl, _, rfl, ite_no (by simp) ?_⟩
    exact ⟨⟨_, rfl⟩, m22.trans (n1.trans n2)⟩
  rintro σ H22 ⟨⟨y11, rfl⟩, m22⟩
  have eW22 := m22 _ _ eW21
  have hS22 := m22.seq hS21
  clear m22 eW21 hS21
  -- a place
  have hd : (0 : Int) < (((rsWords rs).map V.str).length : Nat) + 1 := by omega
  have n0 : 0 ≤ ns.getD (6 : Int).toNat 0 % ((((rsWords rs).map V.str).length : Nat) + 1 : Int) := Int.emod_nonneg _ (by omega)
  have n1 : ns.getD (6 : Int).toNat 0 % ((((rsWords rs).map V.str).length : Nat) + 1 : Int) < (((rsWords rs).map V.str).length : Nat) + 1 := Int.emod_lt_of_pos _ hd
  obtain ⟨n, en⟩ : ∃ n : Nat, ns.getD (6 : Int).toNat 0 % ((((rsWords rs).map V.str).length : Nat) + 1 : Int) = (n : Int) := ⟨(ns.getD (6 : Int).toNat 0 % ((((rsWords rs).map V.str).length : Nat) + 1 : Int)).toNat, by omega⟩
  have hnl : n ≤ (rsWords rs).length := by
    rw [List.length_map] at n1 en
    omega
  refine ⟨_, rfl, sa, ns, 6, rfl, hS22, by decide, .inl ⟨_, rfl, _, rfl, W, _, rfl, .inl (SqL.of eW22), _, _, rfl, rfl, _, _, rfl, rfl, hd, ?_⟩⟩
  dsimp only
  rw [en]
  clear n0 n1
  -- words that fit nowhere
  refine ⟨_, rfl, sa, ns, 6, rfl, hS22, by decide, _, rfl, _, rfl, fun ps xs H25 m25 e25 hx => ?_⟩
  refine ⟨ps, rfl, ⟨_, SqL.of e25⟩, ?_⟩
  have eW25 := m25 _ _ eW22
  have hS25 := m25.seq hS22
  have hwn : (rsWords rs).length ≤ 288 := hwl
  refine for_it walk_list (fun t σ H' => (∃ y11, σ = [some (.ref sa), some (.ref tn), some (.ref D), none, some (.ref W), some (.ref r), some (.int (n : Int)), y7, y8, y9, some (.ref tk), y11]) ∧ Same H25 H') ⟨⟨_, rfl⟩, Same.refl _⟩ (fun t σ H' _ h => h.2.seq (SqL.of e25)) ?_ ?_
  · rintro t y σ H26 H27 ht ⟨⟨z11, rfl⟩, m26⟩ ⟨rfl, ey⟩
    rw [List.getElem?_map] at ey
    obtain ⟨x, ex, rfl⟩ := Option.map_eq_some_iff.mp ey
    obtain ⟨x1, x2⟩ := oddW_wd1 (hx x (List.mem_of_getElem? ex))
    have eW26 := m26 _ _ eW25
    refine ⟨_, rfl, _, rfl, _, rfl, W, _, rfl, SqL.of eW26, fun p1 hp1 => ?_⟩
    rw [cut_take]
    have j1 := same_new hp1 (.lst (((rsWords rs).map V.str).take n))
    refine ⟨_, rfl, big 1 (by decide), fun p2 hp2 => ?_⟩
    have j2 := same_new hp2 (.lst [V.str x])
    refine ⟨p1, p2, _, _, rfl, rfl, j2 _ _ upd_same, upd_same, big _ (by simp only [List.length_take, List.length_map, List.length_cons, List.length_nil]; omega), fun p3 hp3 => ?_⟩
    have j3 := same_new hp3 (.lst (((rsWords rs).map V.str).take n ++ [V.str x]))
    have j13 := j1.trans (j2.trans j3)
    refine ⟨_, rfl, _, rfl, _, rfl, W, _, rfl, SqL.of (j13 _ _ eW26), fun p4 hp4 => ?_⟩
    rw [cut_drop]
    have j4 := same_new hp4 (.lst (((rsWords rs).map V.str).drop n))
    refine ⟨p3, p4, _, _, rfl, rfl, j4 _ _ upd_same, upd_same, big _ (by simp only [List.length_append, List.length_take, List.length_drop, List.length_map, List.length_cons, List.length_nil]; omega), fun p5 hp5 => ?_⟩
    have j5 := same_new hp5 (.lst (((rsWords rs).map V.str).take n ++ [V.str x] ++ ((rsWords rs).map V.str).drop n))
    refine ⟨big 1 (by decide), fun p6 hp6 => ?_⟩
    have j6 := same_new hp6 (.lst [V.str "x"])
    refine ⟨p5, p6, _, _, rfl, rfl, j6 _ _ upd_same, upd_same, big _ (by simp only [List.length_append, List.length_take, List.length_drop, List.length_map, List.length_cons, List.length_nil]; omega), fun p7 hp7 => ?_⟩
    have j7 := same_new hp7 (.lst (((rsWords rs).map V.str).take n ++ [V.str x] ++ ((rsWords rs).map V.str).drop n ++ [V.str "x"]))
    have jj := j13.trans (j4.trans (j5.trans (j6.trans j7)))
    have us_ok : WsOk ((rsWords rs).take n ++ [x] ++ (rsWords rs).drop n ++ (["x"] : List Str)) := by
      refine wsOk_of (by simp only [List.length_append, List.length_take, List.length_drop, List.length_cons, List.length_nil]; omega) (fun z hz => ?_) (fun e => ?_)
      · rcases List.mem_append.mp hz with hz | hz
        · rcases List.mem_append.mp hz with hz | hz
          · rcases List.mem_append.mp hz with hz | hz
            · exact wd1_rs g z (List.mem_of_mem_take hz)
            · rw [List.mem_singleton.mp hz]
              exact x1
          · exact wd1_rs g z (List.mem_of_mem_drop hz)
        · rw [List.mem_singleton.mp hz]
          decide +kernel
      · have := congrArg List.length e
        simp only [List.length_append, List.length_take, List.length_drop, List.length_cons, List.length_nil] at this
        omega
    refine ⟨p7, (rsWords rs).take n ++ [x] ++ (rsWords rs).drop n ++ (["x"] : List Str), rfl, SqL.of ?_, us_ok, fun H28 m28 => ?_⟩
    · rw [upd_same]
      simp only [List.map_append, List.map_take, List.map_drop, List.map_cons, List.map_nil]
    rw [put_at (by omega) g8 x2 hnl]
    refine ⟨_, rfl, rfl, _, rfl, ite_no (by simp) ?_⟩
    exact ⟨⟨_, rfl⟩, m26.trans (jj.trans m28)⟩
  rintro σ H26 ⟨⟨z11, rfl⟩, m26⟩
  have eW26 := m26 _ _ eW25
  have hS26 := m26.seq hS25
  have tok := take_wsOk wok n
  have fin : ∀ (H' : Hp), Same H26 H' → SqL K H' sa (ns.map V.int) := fun H' m => m.seq hS26
  -- a cut text
  refine ⟨_, rfl, _, rfl, _, rfl, W, _, rfl, SqL.of eW26, fun p1 hp1 => ?_⟩
  rw [cut_take]
  have j1 := same_new hp1 (.lst (((rsWords rs).map V.str).take n))
  refine ⟨p1, (rsWords rs).take n, rfl, SqL.of (by rw [upd_same, List.map_take]), tok, fun H28 m28 => ?_⟩
  refine ⟨_, rfl, rfl, _, rfl, ?_⟩
  generalize hv : ns.getD (7 : Int).toNat 0 = v7
  obtain ⟨cc, ec⟩ : ∃ cc : Nat, v7 % 4 = (cc : Int) := ⟨(v7 % 4).toNat, by omega⟩
  obtain ⟨dd, ed⟩ : ∃ dd : Nat, v7 / 4 % 4 = (dd : Int) := ⟨(v7 / 4 % 4).toNat, by omega⟩
  have earg : ([.int (19 + ns.getD (7 : Int).toNat 0 % 4), .int (6 + ns.getD (7 : Int).toNat 0 / 4 % 4)] : List V) = [.int (((19 + cc : Nat)) : Int), .int (((6 + dd : Nat)) : Int)] := by
    rw [hv, ec, ed]
    rfl
  rcases cut_at (rs := rs) (by omega) g8 hnl with h | h
  · rw [h]
    refine ite_no (by simp) (iteF ?_)
    refine ⟨_, rfl, sa, ns, 7, rfl, fin _ (j1.trans m28), by decide, .inl ⟨_, rfl, _, _, rfl, rfl, (by show (0 : Int) < 4; decide), _, _, rfl, rfl, _, rfl, sa, ns, 7, rfl, fin _ (j1.trans m28), by decide, .inl ⟨_, rfl, _, _, rfl, rfl, ⟨by decide, by decide⟩, _, _, rfl, rfl, (by show (0 : Int) < 4; decide), _, _, rfl, rfl, ?_⟩⟩⟩
    exact ⟨cc, dd, earg, by omega, by omega, fun H' _ => q H'⟩
  · refine ite2 (fun _ => ?_) (fun _ => iteF ?_)
    rotate_left
    · refine ⟨_, rfl, sa, ns, 7, rfl, fin _ (j1.trans m28), by decide, .inl ⟨_, rfl, _, _, rfl, rfl, (by show (0 : Int) < 4; decide), _, _, rfl, rfl, _, rfl, sa, ns, 7, rfl, fin _ (j1.trans m28), by decide, .inl ⟨_, rfl, _, _, rfl, rfl, ⟨by decide, by decide⟩, _, _, rfl, rfl, (by show (0 : Int) < 4; decide), _, _, rfl, rfl, ?_⟩⟩⟩
      exact ⟨cc, dd, earg, by omega, by omega, fun H' _ => q H'⟩
    refine ⟨_, rfl, _, rfl, _, rfl, W, _, rfl, SqL.of (m28 _ _ (j1 _ _ eW26)), fun p2 hp2 => ?_⟩
    rw [cut_take]
    have j2 := same_new hp2 (.lst (((rsWords rs).map V.str).take n))
    refine ⟨p2, (rsWords rs).take n, rfl, SqL.of (by rw [upd_same, List.map_take]), tok, fun H29 m29 => ?_⟩
    rw [h]
    refine ⟨_, rfl, rfl, _, rfl, ite_no (by simp) ?_⟩
    refine ⟨_, rfl, sa, ns, 7, rfl, fin _ ((j1.trans m28).trans (j2.trans m29)), by decide, .inl ⟨_, rfl, _, _, rfl, rfl, (by show (0 : Int) < 4; decide), _, _, rfl, rfl, _, rfl, sa, ns, 7, rfl, fin _ ((j1.trans m28).trans (j2.trans m29)), by decide, .inl ⟨_, rfl, _, _, rfl, rfl, ⟨by decide, by decide⟩, _, _, rfl, rfl, (by show (0 : Int) < 4; decide), _, _, rfl, rfl, ?_⟩⟩⟩
    exact ⟨cc, dd, earg, by omega, by omega, fun H' _ => q H'⟩
end
end Toy
set_option Elab.async false
set_option linter.all false
set_option maxRecDepth 100000
set_option maxHeartbeats 4000000
namespace Toy
open PySem L2 NdefX Gm Pz
open Mine hiding same_new
/-! ### the program's top -/
theorem all_mk {l : PySem.W.OpenLaw} {w : World} {K : PySem.W.Frag} {h : Heap} {mg : Str → Option Value} {fa : Addr} (X : K.In h) (G : h.Ns mainGlobals mg) (hfa : mg "law" = some (.ref fa))
    {C_Words : Addr}
    {C_Tactic : Addr}
    {od_is_name an_is_name : Option Addr} {sl_is_name : Array (Option Value)} {oc_is_name kV_is_name dc_is_name pm_is_name cd_is_name ct_is_name : Value} {a_is_name : Addr}
    {od_is_number an_is_number : Option Addr} {sl_is_number : Array (Option Value)} {oc_is_number kV_is_number dc_is_number pm_is_number cd_is_number ct_is_number : Value} {a_is_number : Addr}
    {od_Words_init an_Words_init : Option Addr} {sl_Words_init : Array (Option Value)} {oc_Words_init kV_Words_init dc_Words_init pm_Words_init cd_Words_init ct_Words_init : Value} {a_Words_init : Addr}
    {od_Words_ended an_Words_ended : Option Addr} {sl_Words_ended : Array (Option Value)} {oc_Words_ended kV_Words_ended dc_Words_ended pm_Words_ended cd_Words_ended ct_Words_ended : Value} {a_Words_ended : Addr}
    {od_Words_ahead an_Words_ahead : Option Addr} {sl_Words_ahead : Array (Option Value)} {oc_Words_ahead kV_Words_ahead dc_Words_ahead pm_Words_ahead cd_Words_ahead ct_Words_ahead : Value} {a_Words_ahead : Addr}
    {od_Words_refuse an_Words_refuse : Option Addr} {sl_Words_refuse : Array (Option Value)} {oc_Words_refuse kV_Words_refuse dc_Words_refuse pm_Words_refuse cd_Words_refuse ct_Words_refuse : Value} {a_Words_refuse : Addr}
    {od_Words_take an_Words_take : Option Addr} {sl_Words_take : Array (Option Value)} {oc_Words_take kV_Words_take dc_Words_take pm_Words_take cd_Words_take ct_Words_take : Value} {a_Words_take : Addr}
    {od_Words_one_of an_Words_one_of : Option Addr} {sl_Words_one_of : Array (Option Value)} {oc_Words_one_of kV_Words_one_of dc_Words_one_of pm_Words_one_of cd_Words_one_of ct_Words_one_of : Value} {a_Words_one_of : Addr}
    {od_Words_name an_Words_name : Option Addr} {sl_Words_name : Array (Option Value)} {oc_Words_name kV_Words_name dc_Words_name pm_Words_name cd_Words_name ct_Words_name : Value} {a_Words_name : Addr} {dT_Words_name : Addr} {dc2_Words_name : Value} {dd2_Words_name : Option Addr} {dn_Words_name : Nat} {dsl_Words_name : Array (Option Value)} {te0_Words_name : Addr} {teo0_Words_name : Option Addr} {ten0_Words_name : Nat} {tes0_Words_name : Array (Option Value)}
    {od_Words_number an_Words_number : Option Addr} {sl_Words_number : Array (Option Value)} {oc_Words_number kV_Words_number dc_Words_number pm_Words_number cd_Words_number ct_Words_number : Value} {a_Words_number : Addr}
    {od_Words_finish an_Words_finish : Option Addr} {sl_Words_finish : Array (Option Value)} {oc_Words_finish kV_Words_finish dc_Words_finish pm_Words_finish cd_Words_finish ct_Words_finish : Value} {a_Words_finish : Addr}
    {od_read_expression an_read_expression : Option Addr} {sl_read_expression : Array (Option Value)} {oc_read_expression kV_read_expression dc_read_expression pm_read_expression cd_read_expression ct_read_expression : Value} {a_read_expression : Addr} {dT_read_expression : Addr} {dc2_read_expression : Value} {dd2_read_expression : Option Addr} {dn_read_expression : Nat} {dsl_read_expression : Array (Option Value)} {tk0_read_expression : Tok}
    {od_expression_words an_expression_words : Option Addr} {sl_expression_words : Array (Option Value)} {oc_expression_words kV_expression_words dc_expression_words pm_expression_words cd_expression_words ct_expression_words : Value} {a_expression_words : Addr}
    {od_Tactic_init an_Tactic_init : Option Addr} {sl_Tactic_init : Array (Option Value)} {oc_Tactic_init kV_Tactic_init dc_Tactic_init pm_Tactic_init cd_Tactic_init ct_Tactic_init : Value} {a_Tactic_init : Addr}
    {od_Tactic_eq an_Tactic_eq : Option Addr} {sl_Tactic_eq : Array (Option Value)} {oc_Tactic_eq kV_Tactic_eq dc_Tactic_eq pm_Tactic_eq cd_Tactic_eq ct_Tactic_eq : Value} {a_Tactic_eq : Addr}
    {od_read_tactic an_read_tactic : Option Addr} {sl_read_tactic : Array (Option Value)} {oc_read_tactic kV_read_tactic dc_read_tactic pm_read_tactic cd_read_tactic ct_read_tactic : Value} {a_read_tactic : Addr}
    {od_read_rule an_read_rule : Option Addr} {sl_read_rule : Array (Option Value)} {oc_read_rule kV_read_rule dc_read_rule pm_read_rule cd_read_rule ct_read_rule : Value} {a_read_rule : Addr}
    {od_read_part an_read_part : Option Addr} {sl_read_part : Array (Option Value)} {oc_read_part kV_read_part dc_read_part pm_read_part cd_read_part ct_read_part : Value} {a_read_part : Addr}
    {od_tactic_text an_tactic_text : Option Addr} {sl_tactic_text : Array (Option Value)} {oc_tactic_text kV_tactic_text dc_tactic_text pm_tactic_text cd_tactic_text ct_tactic_text : Value} {a_tactic_text : Addr}
    {od_law_cell an_law_cell : Option Addr} {sl_law_cell : Array (Option Value)} {oc_law_cell kV_law_cell dc_law_cell pm_law_cell cd_law_cell ct_law_cell : Value} {a_law_cell : Addr}
    {od_law_row an_law_row : Option Addr} {sl_law_row : Array (Option Value)} {oc_law_row kV_law_row dc_law_row pm_law_row cd_law_row ct_law_row : Value} {a_law_row : Addr}
    {od_law_sight an_law_sight : Option Addr} {sl_law_sight : Array (Option Value)} {oc_law_sight kV_law_sight dc_law_sight pm_law_sight cd_law_sight ct_law_sight : Value} {a_law_sight : Addr}
    {od_law_rule an_law_rule : Option Addr} {sl_law_rule : Array (Option Value)} {oc_law_rule kV_law_rule dc_law_rule pm_law_rule cd_law_rule ct_law_rule : Value} {a_law_rule : Addr}
    {od_law_words an_law_words : Option Addr} {sl_law_words : Array (Option Value)} {oc_law_words kV_law_words dc_law_words pm_law_words cd_law_words ct_law_words : Value} {a_law_words : Addr}
    {od_law_all an_law_all : Option Addr} {sl_law_all : Array (Option Value)} {oc_law_all kV_law_all dc_law_all pm_law_all cd_law_all ct_law_all : Value} {a_law_all : Addr}
    {od_law_strange an_law_strange : Option Addr} {sl_law_strange : Array (Option Value)} {oc_law_strange kV_law_strange dc_law_strange pm_law_strange cd_law_strange ct_law_strange : Value} {a_law_strange : Addr}
    {od_law_at an_law_at : Option Addr} {sl_law_at : Array (Option Value)} {oc_law_at kV_law_at dc_law_at pm_law_at cd_law_at ct_law_at : Value} {a_law_at : Addr}
    {od_law_bounds an_law_bounds : Option Addr} {sl_law_bounds : Array (Option Value)} {oc_law_bounds kV_law_bounds dc_law_bounds pm_law_bounds cd_law_bounds ct_law_bounds : Value} {a_law_bounds : Addr}
    {od_law an_law : Option Addr} {sl_law : Array (Option Value)} {oc_law kV_law dc_law pm_law cd_law ct_law : Value} {a_law : Addr}
    {C_BadText : Addr}
    {od_BadText_init an_BadText_init : Option Addr} {sl_BadText_init : Array (Option Value)} {oc_BadText_init kV_BadText_init dc_BadText_init pm_BadText_init ct_BadText_init : Value} {a_BadText_init cda_BadText_init cc_BadText_init : Addr} {ccl_BadText_init cl_BadText_init : Value} {cdd_BadText_init cld_BadText_init : Option Addr} {ccs_BadText_init csl_BadText_init : Array (Option Value)} {vs_BadText_init : Array Value} {tf_BadText_init : Tok}
    {nm_BadText_init q_BadText_init : Str} {N_BadText_init : Addr} {bs_BadText_init bm_BadText_init : List Value} {sn_BadText_init : List Str} {sub_BadText_init : List Value} {ab_BadText_init : Bool} {col_BadText_init : Option Bool} {dd_BadText_init : Option Addr} {k0_BadText_init k1_BadText_init k2_BadText_init k3_BadText_init k5_BadText_init : Option Value}
    {file : Str}
    {C_PlayError : Addr}
    {C_BadPaper : Addr}
    {a_OPERATORS : Addr} {od_OPERATORS : Option Addr} {n_OPERATORS : Nat} {sl_OPERATORS : Array (Option Value)} {t0_OPERATORS t1_OPERATORS t2_OPERATORS t3_OPERATORS t4_OPERATORS t5_OPERATORS t6_OPERATORS : Tok}
    {a_LOOKS : Addr} {od_LOOKS : Option Addr} {n_LOOKS : Nat} {sl_LOOKS : Array (Option Value)} {t0_LOOKS t1_LOOKS : Tok}
    {tk_DEEPEST_EXPRESSION : Tok}
    {tk_LONGEST_NAME : Tok}
    {tk_LONGEST_NUMBER : Tok}
    {tk_GREATEST_NUMBER : Tok}
    {tk_LETTERS : Tok}
    {tk_DIGITS : Tok}
    {a_KEY_WORDS : Addr} {od_KEY_WORDS : Option Addr} {n_KEY_WORDS : Nat} {sl_KEY_WORDS : Array (Option Value)} {t0_KEY_WORDS t1_KEY_WORDS t2_KEY_WORDS t3_KEY_WORDS t4_KEY_WORDS t5_KEY_WORDS t6_KEY_WORDS t7_KEY_WORDS t8_KEY_WORDS t9_KEY_WORDS t10_KEY_WORDS t11_KEY_WORDS t12_KEY_WORDS t13_KEY_WORDS t14_KEY_WORDS t15_KEY_WORDS t16_KEY_WORDS t17_KEY_WORDS t18_KEY_WORDS t19_KEY_WORDS : Tok}
    {tk_MOST_RULES : Tok}
    {a_KNOWN : Addr} {od_KNOWN : Option Addr} {n_KNOWN : Nat} {sl_KNOWN : Array (Option Value)} {t0_KNOWN t1_KNOWN t2_KNOWN : Tok}
    (o_n : PySem.W.specialIn K (.builtin "object.__class__") "__get__" = some (some (.builtin "getset_descriptor.__get__")))
    (o_t : PySem.W.takesIn K (.builtin "object.__class__") = some true)
    (hC_Words : PySem.W.nsIn K mainGlobals "Words" = some (some (.ref C_Words)))
    (pg_Words : PySem.W.plainGet K C_Words Str.empty = true)
    (hd_Words : PySem.W.hasDictIn K C_Words = true)
    (po_Words : PySem.W.plainOver K C_Words = true)
    (sa_Words : PySem.W.findIn K (.ref C_Words) "__setattr__" = some (some (.builtin "object.__setattr__")))
    (mk_Words : PySem.W.makesIn K C_Words = true)
    (kc_Words : PySem.W.keepIn K (.ref C_Words) = true)
    (sf_Words : PySem.W.selfFirst K C_Words = true)
    (na_Words_words : PySem.W.findIn K (.ref C_Words) "words" = some none)
    (na_Words_at : PySem.W.findIn K (.ref C_Words) "at" = some none)
    (hC_Tactic : PySem.W.nsIn K mainGlobals "Tactic" = some (some (.ref C_Tactic)))
    (pg_Tactic : PySem.W.plainGet K C_Tactic Str.empty = true)
    (hd_Tactic : PySem.W.hasDictIn K C_Tactic = true)
    (po_Tactic : PySem.W.plainOver K C_Tactic = true)
    (sa_Tactic : PySem.W.findIn K (.ref C_Tactic) "__setattr__" = some (some (.builtin "object.__setattr__")))
    (mk_Tactic : PySem.W.makesIn K C_Tactic = true)
    (kc_Tactic : PySem.W.keepIn K (.ref C_Tactic) = true)
    (sf_Tactic : PySem.W.selfFirst K C_Tactic = true)
    (na_Tactic_rules : PySem.W.findIn K (.ref C_Tactic) "rules" = some none)
    (ia_Tactic : PySem.W.findIn K (.ref C_Tactic) "__class__" = some (some (.builtin "object.__class__")))
    (im_Tactic : PySem.W.mroIn K C_Tactic (.type "object") = some true)
    (ik_Tactic : PySem.W.kitOne K (.ref C_Tactic) (.ref C_Tactic) = some true)
    (h_is_name : PySem.W.nsIn K mainGlobals "is_name" = some (some (.ref a_is_name)))
    (l_is_name : K.lookup a_is_name = some ⟨oc_is_name, od_is_name, .func (PySem.W.fnOf "is_name" "is_name" (defArgs s_is_name) (defBody s_is_name) (defScope s_is_name) .none kV_is_name dc_is_name pm_is_name an_is_name cd_is_name ct_is_name), sl_is_name⟩)
    (c_is_name : PySem.W.codeIn K cd_is_name "is_name" = true)
    (k_is_name : PySem.W.keepIn K (.ref a_is_name) = true)
    (h_is_number : PySem.W.nsIn K mainGlobals "is_number" = some (some (.ref a_is_number)))
    (l_is_number : K.lookup a_is_number = some ⟨oc_is_number, od_is_number, .func (PySem.W.fnOf "is_number" "is_number" (defArgs s_is_number) (defBody s_is_number) (defScope s_is_number) .none kV_is_number dc_is_number pm_is_number an_is_number cd_is_number ct_is_number), sl_is_number⟩)
    (c_is_number : PySem.W.codeIn K cd_is_number "is_number" = true)
    (k_is_number : PySem.W.keepIn K (.ref a_is_number) = true)
    (h_Words_init : PySem.W.findIn K (.ref C_Words) "__init__" = some (some (.ref a_Words_init)))
    (i_Words_init : PySem.W.isFn K (.ref a_Words_init) = true)
    (l_Words_init : K.lookup a_Words_init = some ⟨oc_Words_init, od_Words_init, .func (PySem.W.fnOf "__init__" "Words.__init__" (defArgs s_Words_init) (defBody s_Words_init) (defScope s_Words_init) .none kV_Words_init dc_Words_init pm_Words_init an_Words_init cd_Words_init ct_Words_init), sl_Words_init⟩)
    (c_Words_init : PySem.W.codeIn K cd_Words_init "Words.__init__" = true)
    (k_Words_init : PySem.W.keepIn K (.ref a_Words_init) = true)
    (h_Words_ended : PySem.W.findIn K (.ref C_Words) "ended" = some (some (.ref a_Words_ended)))
    (i_Words_ended : PySem.W.isFn K (.ref a_Words_ended) = true)
    (l_Words_ended : K.lookup a_Words_ended = some ⟨oc_Words_ended, od_Words_ended, .func (PySem.W.fnOf "ended" "Words.ended" (defArgs s_Words_ended) (defBody s_Words_ended) (defScope s_Words_ended) .none kV_Words_ended dc_Words_ended pm_Words_ended an_Words_ended cd_Words_ended ct_Words_ended), sl_Words_ended⟩)
    (c_Words_ended : PySem.W.codeIn K cd_Words_ended "Words.ended" = true)
    (k_Words_ended : PySem.W.keepIn K (.ref a_Words_ended) = true)
    (h_Words_ahead : PySem.W.findIn K (.ref C_Words) "ahead" = some (some (.ref a_Words_ahead)))
    (i_Words_ahead : PySem.W.isFn K (.ref a_Words_ahead) = true)
    (l_Words_ahead : K.lookup a_Words_ahead = some ⟨oc_Words_ahead, od_Words_ahead, .func (PySem.W.fnOf "ahead" "Words.ahead" (defArgs s_Words_ahead) (defBody s_Words_ahead) (defScope s_Words_ahead) .none kV_Words_ahead dc_Words_ahead pm_Words_ahead an_Words_ahead cd_Words_ahead ct_Words_ahead), sl_Words_ahead⟩)
    (c_Words_ahead : PySem.W.codeIn K cd_Words_ahead "Words.ahead" = true)
    (k_Words_ahead : PySem.W.keepIn K (.ref a_Words_ahead) = true)
    (h_Words_refuse : PySem.W.findIn K (.ref C_Words) "refuse" = some (some (.ref a_Words_refuse)))
    (i_Words_refuse : PySem.W.isFn K (.ref a_Words_refuse) = true)
    (l_Words_refuse : K.lookup a_Words_refuse = some ⟨oc_Words_refuse, od_Words_refuse, .func (PySem.W.fnOf "refuse" "Words.refuse" (defArgs s_Words_refuse) (defBody s_Words_refuse) (defScope s_Words_refuse) .none kV_Words_refuse dc_Words_refuse pm_Words_refuse an_Words_refuse cd_Words_refuse ct_Words_refuse), sl_Words_refuse⟩)
    (c_Words_refuse : PySem.W.codeIn K cd_Words_refuse "Words.refuse" = true)
    (k_Words_refuse : PySem.W.keepIn K (.ref a_Words_refuse) = true)
    (h_Words_take : PySem.W.findIn K (.ref C_Words) "take" = some (some (.ref a_Words_take)))
    (i_Words_take : PySem.W.isFn K (.ref a_Words_take) = true)
    (l_Words_take : K.lookup a_Words_take = some ⟨oc_Words_take, od_Words_take, .func (PySem.W.fnOf "take" "Words.take" (defArgs s_Words_take) (defBody s_Words_take) (defScope s_Words_take) .none kV_Words_take dc_Words_take pm_Words_take an_Words_take cd_Words_take ct_Words_take), sl_Words_take⟩)
    (c_Words_take : PySem.W.codeIn K cd_Words_take "Words.take" = true)
    (k_Words_take : PySem.W.keepIn K (.ref a_Words_take) = true)
    (h_Words_one_of : PySem.W.findIn K (.ref C_Words) "one_of" = some (some (.ref a_Words_one_of)))
    (i_Words_one_of : PySem.W.isFn K (.ref a_Words_one_of) = true)
    (l_Words_one_of : K.lookup a_Words_one_of = some ⟨oc_Words_one_of, od_Words_one_of, .func (PySem.W.fnOf "one_of" "Words.one_of" (defArgs s_Words_one_of) (defBody s_Words_one_of) (defScope s_Words_one_of) .none kV_Words_one_of dc_Words_one_of pm_Words_one_of an_Words_one_of cd_Words_one_of ct_Words_one_of), sl_Words_one_of⟩)
    (c_Words_one_of : PySem.W.codeIn K cd_Words_one_of "Words.one_of" = true)
    (k_Words_one_of : PySem.W.keepIn K (.ref a_Words_one_of) = true)
    (h_Words_name : PySem.W.findIn K (.ref C_Words) "name" = some (some (.ref a_Words_name)))
    (i_Words_name : PySem.W.isFn K (.ref a_Words_name) = true)
    (l_Words_name : K.lookup a_Words_name = some ⟨oc_Words_name, od_Words_name, .func (PySem.W.fnOf "name" "Words.name" (defArgs s_Words_name) (defBody s_Words_name) (defScope s_Words_name) (.ref dT_Words_name) kV_Words_name dc_Words_name pm_Words_name an_Words_name cd_Words_name ct_Words_name), sl_Words_name⟩)
    (dl_Words_name : K.lookup dT_Words_name = some ⟨dc2_Words_name, dd2_Words_name, .seq #[.ref te0_Words_name] dn_Words_name, dsl_Words_name⟩)
    (lt0_Words_name : K.lookup te0_Words_name = some ⟨.type "tuple", teo0_Words_name, .seq #[] ten0_Words_name, tes0_Words_name⟩)
    (c_Words_name : PySem.W.codeIn K cd_Words_name "Words.name" = true)
    (k_Words_name : PySem.W.keepIn K (.ref a_Words_name) = true)
    (h_Words_number : PySem.W.findIn K (.ref C_Words) "number" = some (some (.ref a_Words_number)))
    (i_Words_number : PySem.W.isFn K (.ref a_Words_number) = true)
    (l_Words_number : K.lookup a_Words_number = some ⟨oc_Words_number, od_Words_number, .func (PySem.W.fnOf "number" "Words.number" (defArgs s_Words_number) (defBody s_Words_number) (defScope s_Words_number) .none kV_Words_number dc_Words_number pm_Words_number an_Words_number cd_Words_number ct_Words_number), sl_Words_number⟩)
    (c_Words_number : PySem.W.codeIn K cd_Words_number "Words.number" = true)
    (k_Words_number : PySem.W.keepIn K (.ref a_Words_number) = true)
    (h_Words_finish : PySem.W.findIn K (.ref C_Words) "finish" = some (some (.ref a_Words_finish)))
    (i_Words_finish : PySem.W.isFn K (.ref a_Words_finish) = true)
    (l_Words_finish : K.lookup a_Words_finish = some ⟨oc_Words_finish, od_Words_finish, .func (PySem.W.fnOf "finish" "Words.finish" (defArgs s_Words_finish) (defBody s_Words_finish) (defScope s_Words_finish) .none kV_Words_finish dc_Words_finish pm_Words_finish an_Words_finish cd_Words_finish ct_Words_finish), sl_Words_finish⟩)
    (c_Words_finish : PySem.W.codeIn K cd_Words_finish "Words.finish" = true)
    (k_Words_finish : PySem.W.keepIn K (.ref a_Words_finish) = true)
    (h_read_expression : PySem.W.nsIn K mainGlobals "read_expression" = some (some (.ref a_read_expression)))
    (l_read_expression : K.lookup a_read_expression = some ⟨oc_read_expression, od_read_expression, .func (PySem.W.fnOf "read_expression" "read_expression" (defArgs s_read_expression) (defBody s_read_expression) (defScope s_read_expression) (.ref dT_read_expression) kV_read_expression dc_read_expression pm_read_expression an_read_expression cd_read_expression ct_read_expression), sl_read_expression⟩)
    (dl_read_expression : K.lookup dT_read_expression = some ⟨dc2_read_expression, dd2_read_expression, .seq #[.int 1 tk0_read_expression] dn_read_expression, dsl_read_expression⟩)
    (c_read_expression : PySem.W.codeIn K cd_read_expression "read_expression" = true)
    (k_read_expression : PySem.W.keepIn K (.ref a_read_expression) = true)
    (h_expression_words : PySem.W.nsIn K mainGlobals "expression_words" = some (some (.ref a_expression_words)))
    (l_expression_words : K.lookup a_expression_words = some ⟨oc_expression_words, od_expression_words, .func (PySem.W.fnOf "expression_words" "expression_words" (defArgs s_expression_words) (defBody s_expression_words) (defScope s_expression_words) .none kV_expression_words dc_expression_words pm_expression_words an_expression_words cd_expression_words ct_expression_words), sl_expression_words⟩)
    (c_expression_words : PySem.W.codeIn K cd_expression_words "expression_words" = true)
    (k_expression_words : PySem.W.keepIn K (.ref a_expression_words) = true)
    (h_Tactic_init : PySem.W.findIn K (.ref C_Tactic) "__init__" = some (some (.ref a_Tactic_init)))
    (i_Tactic_init : PySem.W.isFn K (.ref a_Tactic_init) = true)
    (l_Tactic_init : K.lookup a_Tactic_init = some ⟨oc_Tactic_init, od_Tactic_init, .func (PySem.W.fnOf "__init__" "Tactic.__init__" (defArgs s_Tactic_init) (defBody s_Tactic_init) (defScope s_Tactic_init) .none kV_Tactic_init dc_Tactic_init pm_Tactic_init an_Tactic_init cd_Tactic_init ct_Tactic_init), sl_Tactic_init⟩)
    (c_Tactic_init : PySem.W.codeIn K cd_Tactic_init "Tactic.__init__" = true)
    (k_Tactic_init : PySem.W.keepIn K (.ref a_Tactic_init) = true)
    (h_Tactic_eq : PySem.W.findIn K (.ref C_Tactic) "__eq__" = some (some (.ref a_Tactic_eq)))
    (i_Tactic_eq : PySem.W.isFn K (.ref a_Tactic_eq) = true)
    (l_Tactic_eq : K.lookup a_Tactic_eq = some ⟨oc_Tactic_eq, od_Tactic_eq, .func (PySem.W.fnOf "__eq__" "Tactic.__eq__" (defArgs s_Tactic_eq) (defBody s_Tactic_eq) (defScope s_Tactic_eq) .none kV_Tactic_eq dc_Tactic_eq pm_Tactic_eq an_Tactic_eq cd_Tactic_eq ct_Tactic_eq), sl_Tactic_eq⟩)
    (c_Tactic_eq : PySem.W.codeIn K cd_Tactic_eq "Tactic.__eq__" = true)
    (k_Tactic_eq : PySem.W.keepIn K (.ref a_Tactic_eq) = true)
    (h_read_tactic : PySem.W.nsIn K mainGlobals "read_tactic" = some (some (.ref a_read_tactic)))
    (l_read_tactic : K.lookup a_read_tactic = some ⟨oc_read_tactic, od_read_tactic, .func (PySem.W.fnOf "read_tactic" "read_tactic" (defArgs s_read_tactic) (defBody s_read_tactic) (defScope s_read_tactic) .none kV_read_tactic dc_read_tactic pm_read_tactic an_read_tactic cd_read_tactic ct_read_tactic), sl_read_tactic⟩)
    (c_read_tactic : PySem.W.codeIn K cd_read_tactic "read_tactic" = true)
    (k_read_tactic : PySem.W.keepIn K (.ref a_read_tactic) = true)
    (h_read_rule : PySem.W.nsIn K mainGlobals "read_rule" = some (some (.ref a_read_rule)))
    (l_read_rule : K.lookup a_read_rule = some ⟨oc_read_rule, od_read_rule, .func (PySem.W.fnOf "read_rule" "read_rule" (defArgs s_read_rule) (defBody s_read_rule) (defScope s_read_rule) .none kV_read_rule dc_read_rule pm_read_rule an_read_rule cd_read_rule ct_read_rule), sl_read_rule⟩)
    (c_read_rule : PySem.W.codeIn K cd_read_rule "read_rule" = true)
    (k_read_rule : PySem.W.keepIn K (.ref a_read_rule) = true)
    (h_read_part : PySem.W.nsIn K mainGlobals "read_part" = some (some (.ref a_read_part)))
    (l_read_part : K.lookup a_read_part = some ⟨oc_read_part, od_read_part, .func (PySem.W.fnOf "read_part" "read_part" (defArgs s_read_part) (defBody s_read_part) (defScope s_read_part) .none kV_read_part dc_read_part pm_read_part an_read_part cd_read_part ct_read_part), sl_read_part⟩)
    (c_read_part : PySem.W.codeIn K cd_read_part "read_part" = true)
    (k_read_part : PySem.W.keepIn K (.ref a_read_part) = true)
    (h_tactic_text : PySem.W.nsIn K mainGlobals "tactic_text" = some (some (.ref a_tactic_text)))
    (l_tactic_text : K.lookup a_tactic_text = some ⟨oc_tactic_text, od_tactic_text, .func (PySem.W.fnOf "tactic_text" "tactic_text" (defArgs s_tactic_text) (defBody s_tactic_text) (defScope s_tactic_text) .none kV_tactic_text dc_tactic_text pm_tactic_text an_tactic_text cd_tactic_text ct_tactic_text), sl_tactic_text⟩)
    (c_tactic_text : PySem.W.codeIn K cd_tactic_text "tactic_text" = true)
    (k_tactic_text : PySem.W.keepIn K (.ref a_tactic_text) = true)
    (h_law_cell : PySem.W.nsIn K mainGlobals "_law_cell" = some (some (.ref a_law_cell)))
    (l_law_cell : K.lookup a_law_cell = some ⟨oc_law_cell, od_law_cell, .func (PySem.W.fnOf "_law_cell" "_law_cell" (defArgs s_law_cell) (defBody s_law_cell) (defScope s_law_cell) .none kV_law_cell dc_law_cell pm_law_cell an_law_cell cd_law_cell ct_law_cell), sl_law_cell⟩)
    (c_law_cell : PySem.W.codeIn K cd_law_cell "_law_cell" = true)
    (k_law_cell : PySem.W.keepIn K (.ref a_law_cell) = true)
    (h_law_row : PySem.W.nsIn K mainGlobals "_law_row" = some (some (.ref a_law_row)))
    (l_law_row : K.lookup a_law_row = some ⟨oc_law_row, od_law_row, .func (PySem.W.fnOf "_law_row" "_law_row" (defArgs s_law_row) (defBody s_law_row) (defScope s_law_row) .none kV_law_row dc_law_row pm_law_row an_law_row cd_law_row ct_law_row), sl_law_row⟩)
    (c_law_row : PySem.W.codeIn K cd_law_row "_law_row" = true)
    (k_law_row : PySem.W.keepIn K (.ref a_law_row) = true)
    (h_law_sight : PySem.W.nsIn K mainGlobals "_law_sight" = some (some (.ref a_law_sight)))
    (l_law_sight : K.lookup a_law_sight = some ⟨oc_law_sight, od_law_sight, .func (PySem.W.fnOf "_law_sight" "_law_sight" (defArgs s_law_sight) (defBody s_law_sight) (defScope s_law_sight) .none kV_law_sight dc_law_sight pm_law_sight an_law_sight cd_law_sight ct_law_sight), sl_law_sight⟩)
    (c_law_sight : PySem.W.codeIn K cd_law_sight "_law_sight" = true)
    (k_law_sight : PySem.W.keepIn K (.ref a_law_sight) = true)
    (h_law_rule : PySem.W.nsIn K mainGlobals "_law_rule" = some (some (.ref a_law_rule)))
    (l_law_rule : K.lookup a_law_rule = some ⟨oc_law_rule, od_law_rule, .func (PySem.W.fnOf "_law_rule" "_law_rule" (defArgs s_law_rule) (defBody s_law_rule) (defScope s_law_rule) .none kV_law_rule dc_law_rule pm_law_rule an_law_rule cd_law_rule ct_law_rule), sl_law_rule⟩)
    (c_law_rule : PySem.W.codeIn K cd_law_rule "_law_rule" = true)
    (k_law_rule : PySem.W.keepIn K (.ref a_law_rule) = true)
    (h_law_words : PySem.W.nsIn K mainGlobals "_law_words" = some (some (.ref a_law_words)))
    (l_law_words : K.lookup a_law_words = some ⟨oc_law_words, od_law_words, .func (PySem.W.fnOf "_law_words" "_law_words" (defArgs s_law_words) (defBody s_law_words) (defScope s_law_words) .none kV_law_words dc_law_words pm_law_words an_law_words cd_law_words ct_law_words), sl_law_words⟩)
    (c_law_words : PySem.W.codeIn K cd_law_words "_law_words" = true)
    (k_law_words : PySem.W.keepIn K (.ref a_law_words) = true)
    (h_law_all : PySem.W.nsIn K mainGlobals "_law_all" = some (some (.ref a_law_all)))
    (l_law_all : K.lookup a_law_all = some ⟨oc_law_all, od_law_all, .func (PySem.W.fnOf "_law_all" "_law_all" (defArgs s_law_all) (defBody s_law_all) (defScope s_law_all) .none kV_law_all dc_law_all pm_law_all an_law_all cd_law_all ct_law_all), sl_law_all⟩)
    (c_law_all : PySem.W.codeIn K cd_law_all "_law_all" = true)
    (k_law_all : PySem.W.keepIn K (.ref a_law_all) = true)
    (h_law_strange : PySem.W.nsIn K mainGlobals "_law_strange" = some (some (.ref a_law_strange)))
    (l_law_strange : K.lookup a_law_strange = some ⟨oc_law_strange, od_law_strange, .func (PySem.W.fnOf "_law_strange" "_law_strange" (defArgs s_law_strange) (defBody s_law_strange) (defScope s_law_strange) .none kV_law_strange dc_law_strange pm_law_strange an_law_strange cd_law_strange ct_law_strange), sl_law_strange⟩)
    (c_law_strange : PySem.W.codeIn K cd_law_strange "_law_strange" = true)
    (k_law_strange : PySem.W.keepIn K (.ref a_law_strange) = true)
    (h_law_at : PySem.W.nsIn K mainGlobals "_law_at" = some (some (.ref a_law_at)))
    (l_law_at : K.lookup a_law_at = some ⟨oc_law_at, od_law_at, .func (PySem.W.fnOf "_law_at" "_law_at" (defArgs s_law_at) (defBody s_law_at) (defScope s_law_at) .none kV_law_at dc_law_at pm_law_at an_law_at cd_law_at ct_law_at), sl_law_at⟩)
    (c_law_at : PySem.W.codeIn K cd_law_at "_law_at" = true)
    (k_law_at : PySem.W.keepIn K (.ref a_law_at) = true)
    (h_law_bounds : PySem.W.nsIn K mainGlobals "_law_bounds" = some (some (.ref a_law_bounds)))
    (l_law_bounds : K.lookup a_law_bounds = some ⟨oc_law_bounds, od_law_bounds, .func (PySem.W.fnOf "_law_bounds" "_law_bounds" (defArgs s_law_bounds) (defBody s_law_bounds) (defScope s_law_bounds) .none kV_law_bounds dc_law_bounds pm_law_bounds an_law_bounds cd_law_bounds ct_law_bounds), sl_law_bounds⟩)
    (c_law_bounds : PySem.W.codeIn K cd_law_bounds "_law_bounds" = true)
    (k_law_bounds : PySem.W.keepIn K (.ref a_law_bounds) = true)
    (h_law : PySem.W.nsIn K mainGlobals "law" = some (some (.ref a_law)))
    (l_law : K.lookup a_law = some ⟨oc_law, od_law, .func (PySem.W.fnOf "law" "law" (defArgs s_law) (defBody s_law) (defScope s_law) .none kV_law dc_law pm_law an_law cd_law ct_law), sl_law⟩)
    (c_law : PySem.W.codeIn K cd_law "law" = true)
    (k_law : PySem.W.keepIn K (.ref a_law) = true)
    (hC_BadText : PySem.W.nsIn K mainGlobals "BadText" = some (some (.ref C_BadText)))
    (kc_BadText : PySem.W.keepIn K (.ref C_BadText) = true)
    (xb_BadText : PySem.W.subIn K (.ref C_BadText) (.type "BaseException") = some true)
    (xt_BadText : PySem.W.typeIn K (.ref C_BadText) = some (.type "type"))
    (xd_BadText : PySem.W.hasDictIn K C_BadText = true)
    (any_ : PySem.W.nsIn K cStatics "thirdparty.any" = some none)
    (zn_super : PySem.W.nsIn K mainGlobals "super" = some none)
    (hi_BadText_init : PySem.W.findIn K (.ref C_BadText) "__init__" = some (some (.ref a_BadText_init)))
    (ti_BadText_init : PySem.W.typeIn K (.ref a_BadText_init) = some (.type "function"))
    (li_BadText_init : K.lookup a_BadText_init = some ⟨oc_BadText_init, od_BadText_init, .func (PySem.W.ksFn "__init__" "BadText.__init__" (defArgs s_BadText_init) (defBody s_BadText_init) (defScope s_BadText_init) .none kV_BadText_init dc_BadText_init pm_BadText_init an_BadText_init (.ref cda_BadText_init) ct_BadText_init cc_BadText_init), sl_BadText_init⟩)
    (ci_BadText_init : PySem.W.codeIn K (.ref cda_BadText_init) "BadText.__init__" = true)
    (di_BadText_init : K.lookup cda_BadText_init = some ⟨ccl_BadText_init, cdd_BadText_init, .fields vs_BadText_init, ccs_BadText_init⟩)
    (vi_BadText_init : vs_BadText_init[2]? = some (.str file tf_BadText_init))
    (xi_BadText_init : K.lookup cc_BadText_init = some ⟨cl_BadText_init, cld_BadText_init, .cell (some (.ref C_BadText)), csl_BadText_init⟩)
    (si_BadText_init : PySem.W.ks_superIn K C_BadText C_BadText "__init__" = some (some (.builtin "ValueError.__init__")))
    (ui_BadText_init : PySem.W.subIn K (.ref C_BadText) (.type "ValueError") = some true)
    (mi_BadText_init : PySem.W.mroIn K C_BadText (.ref C_BadText) = some true)
    (lc_BadText_init : K.lookup C_BadText = some (excClassObj nm_BadText_init q_BadText_init C_BadText N_BadText_init bs_BadText_init bm_BadText_init true sn_BadText_init sub_BadText_init ab_BadText_init col_BadText_init dd_BadText_init k0_BadText_init k1_BadText_init k2_BadText_init k3_BadText_init k5_BadText_init "ValueError.__new__"))
    (rm_BadText_init : PySem.HandSPX.refsVE bm_BadText_init = true)
    (sa_BadText_init : PySem.W.findIn K (.ref C_BadText) "__setattr__" = some (some (.builtin "object.__setattr__")))
    (no_BadText_init : PySem.W.findIn K (.ref C_BadText) "at" = some none)
    (hC_PlayError : PySem.W.nsIn K mainGlobals "PlayError" = some (some (.ref C_PlayError)))
    (kc_PlayError : PySem.W.keepIn K (.ref C_PlayError) = true)
    (xb_PlayError : PySem.W.subIn K (.ref C_PlayError) (.type "BaseException") = some true)
    (xt_PlayError : PySem.W.typeIn K (.ref C_PlayError) = some (.type "type"))
    (xd_PlayError : PySem.W.hasDictIn K C_PlayError = true)
    (hC_BadPaper : PySem.W.nsIn K mainGlobals "BadPaper" = some (some (.ref C_BadPaper)))
    (eg_BadText : PySem.W.findIn K (.ref C_BadText) "__getattribute__" = some (some (.builtin "BaseException.__getattribute__")))
    (ek_BadText : PySem.W.findIn K (.ref C_BadText) "__getattr__" = some none)
    (ea_BadText : PySem.W.findIn K (.ref C_BadText) "__class__" = some (some (.builtin "object.__class__")))
    (em_BadText : PySem.W.mroIn K C_BadText (.type "object") = some true)
    (hg_OPERATORS : PySem.W.nsIn K mainGlobals "OPERATORS" = some (some (.ref a_OPERATORS)))
    (lq_OPERATORS : K.lookup a_OPERATORS = some ⟨.type "tuple", od_OPERATORS, .seq #[.str "+" t0_OPERATORS, .str "-" t1_OPERATORS, .str "*" t2_OPERATORS, .str "/" t3_OPERATORS, .str "mod" t4_OPERATORS, .str "<" t5_OPERATORS, .str "=" t6_OPERATORS] n_OPERATORS, sl_OPERATORS⟩)
    (hg_LOOKS : PySem.W.nsIn K mainGlobals "LOOKS" = some (some (.ref a_LOOKS)))
    (lq_LOOKS : K.lookup a_LOOKS = some ⟨.type "tuple", od_LOOKS, .seq #[.str "has" t0_LOOKS, .str "cell" t1_LOOKS] n_LOOKS, sl_LOOKS⟩)
    (hg_DEEPEST_EXPRESSION : PySem.W.nsIn K mainGlobals "DEEPEST_EXPRESSION" = some (some (.int 8 tk_DEEPEST_EXPRESSION)))
    (hg_LONGEST_NAME : PySem.W.nsIn K mainGlobals "LONGEST_NAME" = some (some (.int 12 tk_LONGEST_NAME)))
    (hg_LONGEST_NUMBER : PySem.W.nsIn K mainGlobals "LONGEST_NUMBER" = some (some (.int 5 tk_LONGEST_NUMBER)))
    (hg_GREATEST_NUMBER : PySem.W.nsIn K mainGlobals "GREATEST_NUMBER" = some (some (.int 65535 tk_GREATEST_NUMBER)))
    (hg_LETTERS : PySem.W.nsIn K mainGlobals "LETTERS" = some (some (.str "abcdefghijklmnopqrstuvwxyz" tk_LETTERS)))
    (hg_DIGITS : PySem.W.nsIn K mainGlobals "DIGITS" = some (some (.str "0123456789" tk_DIGITS)))
    (hg_KEY_WORDS : PySem.W.nsIn K mainGlobals "KEY_WORDS" = some (some (.ref a_KEY_WORDS)))
    (lq_KEY_WORDS : K.lookup a_KEY_WORDS = some ⟨.type "tuple", od_KEY_WORDS, .seq #[.str "var" t0_KEY_WORDS, .str "table" t1_KEY_WORDS, .str "lots" t2_KEY_WORDS, .str "proc" t3_KEY_WORDS, .str "local" t4_KEY_WORDS, .str "set" t5_KEY_WORDS, .str "let" t6_KEY_WORDS, .str "draw" t7_KEY_WORDS, .str "put" t8_KEY_WORDS, .str "lot" t9_KEY_WORDS, .str "ask" t10_KEY_WORDS, .str "if" t11_KEY_WORDS, .str "else" t12_KEY_WORDS, .str "end" t13_KEY_WORDS, .str "bad" t14_KEY_WORDS, .str "after" t15_KEY_WORDS, .str "answer" t16_KEY_WORDS, .str "has" t17_KEY_WORDS, .str "cell" t18_KEY_WORDS, .str "mod" t19_KEY_WORDS] n_KEY_WORDS, sl_KEY_WORDS⟩)
    (hg_MOST_RULES : PySem.W.nsIn K mainGlobals "MOST_RULES" = some (some (.int 20 tk_MOST_RULES)))
    (hg_KNOWN : PySem.W.nsIn K mainGlobals "KNOWN" = some (some (.ref a_KNOWN)))
    (lq_KNOWN : K.lookup a_KNOWN = some ⟨.type "tuple", od_KNOWN, .seq #[.str "last" t0_KNOWN, .str "made" t1_KNOWN, .str "kept" t2_KNOWN] n_KNOWN, sl_KNOWN⟩)
    (zn_len : PySem.W.nsIn K mainGlobals "len" = some none)
    (zn_all : PySem.W.nsIn K mainGlobals "all" = some none)
    (zn_int : PySem.W.nsIn K mainGlobals "int" = some none)
    (zn_str : PySem.W.nsIn K mainGlobals "str" = some none)
    (zn_tuple : PySem.W.nsIn K mainGlobals "tuple" = some none)
    (zn_list : PySem.W.nsIn K mainGlobals "list" = some none)
    (zn_range : PySem.W.nsIn K mainGlobals "range" = some none)
    (zn_isinstance : PySem.W.nsIn K mainGlobals "isinstance" = some none)
    (zn_abs : PySem.W.nsIn K mainGlobals "abs" = some none)
    (xga_BadText : PySem.W.findIn K (.ref C_BadText) "__getattribute__" = some (some (.builtin "BaseException.__getattribute__")))
    (xgg_BadText : PySem.W.findIn K (.ref C_BadText) "__getattr__" = some none)
    (sub_tp : PySem.W.subIn K (.ref C_BadText) (.ref C_PlayError) = some true)
    (ki_tt : PySem.W.kitOne K (.ref C_BadText) (.ref C_BadText) = some true)
    (ki_tp : PySem.W.kitOne K (.ref C_BadText) (.ref C_BadPaper) = some false)
    (hP_ : PrF l.prog file) :
    ∃ fd : FuncData, (∀ (s : Shared) (v : Value), BindsTo s fd ⟨[v], []⟩ [("script", v)]) ∧ ∀ base : Heap, K.In base → base.Ns mainGlobals mg → FnOk l.prog w K mg base CX0 60 fa fd ["script"] (spLaw K) := by
  have e := hfa.symm.trans (PySem.W.mg_of X G h_law)
  cases e
  have F_is_name := fun_mk (st := s_is_name) l_is_name c_is_name k_is_name
  have b_is_name := F_is_name.binds (ps := ["word"]) fun _ _ _ _ _ _ us hl => match us, hl with | [_], _ => rfl
  have F_is_number := fun_mk (st := s_is_number) l_is_number c_is_number k_is_number
  have b_is_number := F_is_number.binds (ps := ["word"]) fun _ _ _ _ _ _ us hl => match us, hl with | [_], _ => rfl
  have F_Words_init := fun_mk (st := s_Words_init) l_Words_init c_Words_init k_Words_init
  have b_Words_init := F_Words_init.binds (ps := ["self", "text"]) fun _ _ _ _ _ _ us hl => match us, hl with | [_, _], _ => rfl
  have F_Words_ended := fun_mk (st := s_Words_ended) l_Words_ended c_Words_ended k_Words_ended
  have b_Words_ended := F_Words_ended.binds (ps := ["self"]) fun _ _ _ _ _ _ us hl => match us, hl with | [_], _ => rfl
  have F_Words_ahead := fun_mk (st := s_Words_ahead) l_Words_ahead c_Words_ahead k_Words_ahead
  have b_Words_ahead := F_Words_ahead.binds (ps := ["self"]) fun _ _ _ _ _ _ us hl => match us, hl with | [_], _ => rfl
  have F_Words_refuse := fun_mk (st := s_Words_refuse) l_Words_refuse c_Words_refuse k_Words_refuse
  have b_Words_refuse := F_Words_refuse.binds (ps := ["self"]) fun _ _ _ _ _ _ us hl => match us, hl with | [_], _ => rfl
  have F_Words_take := fun_mk (st := s_Words_take) l_Words_take c_Words_take k_Words_take
  have b_Words_take := F_Words_take.binds (ps := ["self"]) fun _ _ _ _ _ _ us hl => match us, hl with | [_], _ => rfl
  have F_Words_one_of := fun_mk (st := s_Words_one_of) l_Words_one_of c_Words_one_of k_Words_one_of
  have b_Words_one_of := F_Words_one_of.binds (ps := ["self", "choices"]) fun _ _ _ _ _ _ us hl => match us, hl with | [_, _], _ => rfl
  have F_Words_name : FunD K "name" "Words.name" (defArgs s_Words_name) (defBody s_Words_name) (defScope s_Words_name) [.ref te0_Words_name] [] a_Words_name (PySem.W.fnOf "name" "Words.name" (defArgs s_Words_name) (defBody s_Words_name) (defScope s_Words_name) (.ref dT_Words_name) kV_Words_name dc_Words_name pm_Words_name an_Words_name cd_Words_name ct_Words_name) := ⟨⟨_, _, _, _, _, _, _, _, _, _, rfl, l_Words_name, c_Words_name, .inr ⟨List.cons_ne_nil _ _, _, _, _, _, rfl, dl_Words_name, rfl, (.cons rfl .nil)⟩, .inl rfl⟩, k_Words_name⟩
  obtain ⟨ds0_Words_name, dv0_Words_name, db0_Words_name⟩ := F_Words_name.binds1 (ps := ["self", "taken"]) 1 0 (List.cons_ne_nil _ _) rfl fun _ _ _ _ _ _ _ us its hl hi => match us, its, hl, hi with | [_], [_], _, _ => ⟨_, rfl, rfl⟩
  obtain ⟨ds1_Words_name, dv1_Words_name, db1_Words_name⟩ := F_Words_name.binds1 (ps := ["self", "taken"]) 2 1 (List.cons_ne_nil _ _) rfl fun _ _ _ _ _ _ _ us its hl hi => match us, its, hl, hi with | [_, _], [_], _, _ => ⟨_, rfl, rfl⟩
  have b_Words_name : L2.Binds K (PySem.W.fnOf "name" "Words.name" (defArgs s_Words_name) (defBody s_Words_name) (defScope s_Words_name) (.ref dT_Words_name) kV_Words_name dc_Words_name pm_Words_name an_Words_name cd_Words_name ct_Words_name) ["self", "taken"] [] := by cases dv1_Words_name; exact db1_Words_name
  have F_Words_number := fun_mk (st := s_Words_number) l_Words_number c_Words_number k_Words_number
  have b_Words_number := F_Words_number.binds (ps := ["self", "least", "greatest"]) fun _ _ _ _ _ _ us hl => match us, hl with | [_, _, _], _ => rfl
  have F_Words_finish := fun_mk (st := s_Words_finish) l_Words_finish c_Words_finish k_Words_finish
  have b_Words_finish := F_Words_finish.binds (ps := ["self"]) fun _ _ _ _ _ _ us hl => match us, hl with | [_], _ => rfl
  have F_read_expression : FunD K "read_expression" "read_expression" (defArgs s_read_expression) (defBody s_read_expression) (defScope s_read_expression) [.int 1] [] a_read_expression (PySem.W.fnOf "read_expression" "read_expression" (defArgs s_read_expression) (defBody s_read_expression) (defScope s_read_expression) (.ref dT_read_expression) kV_read_expression dc_read_expression pm_read_expression an_read_expression cd_read_expression ct_read_expression) := ⟨⟨_, _, _, _, _, _, _, _, _, _, rfl, l_read_expression, c_read_expression, .inr ⟨List.cons_ne_nil _ _, _, _, _, _, rfl, dl_read_expression, rfl, (.cons ⟨_, rfl⟩ .nil)⟩, .inl rfl⟩, k_read_expression⟩
  obtain ⟨ds0_read_expression, dv0_read_expression, db0_read_expression⟩ := F_read_expression.binds1 (ps := ["words", "meanings", "tables", "depth"]) 3 0 (List.cons_ne_nil _ _) rfl fun _ _ _ _ _ _ _ us its hl hi => match us, its, hl, hi with | [_, _, _], [_], _, _ => ⟨_, rfl, rfl⟩
  obtain ⟨ds1_read_expression, dv1_read_expression, db1_read_expression⟩ := F_read_expression.binds1 (ps := ["words", "meanings", "tables", "depth"]) 4 1 (List.cons_ne_nil _ _) rfl fun _ _ _ _ _ _ _ us its hl hi => match us, its, hl, hi with | [_, _, _, _], [_], _, _ => ⟨_, rfl, rfl⟩
  have b_read_expression : L2.Binds K (PySem.W.fnOf "read_expression" "read_expression" (defArgs s_read_expression) (defBody s_read_expression) (defScope s_read_expression) (.ref dT_read_expression) kV_read_expression dc_read_expression pm_read_expression an_read_expression cd_read_expression ct_read_expression) ["words", "meanings", "tables", "depth"] [] := by cases dv1_read_expression; exact db1_read_expression
  have F_expression_words := fun_mk (st := s_expression_words) l_expression_words c_expression_words k_expression_words
  have b_expression_words := F_expression_words.binds (ps := ["expression"]) fun _ _ _ _ _ _ us hl => match us, hl with | [_], _ => rfl
  have F_Tactic_init := fun_mk (st := s_Tactic_init) l_Tactic_init c_Tactic_init k_Tactic_init
  have b_Tactic_init := F_Tactic_init.binds (ps := ["self", "rules"]) fun _ _ _ _ _ _ us hl => match us, hl with | [_, _], _ => rfl
  have F_Tactic_eq := fun_mk (st := s_Tactic_eq) l_Tactic_eq c_Tactic_eq k_Tactic_eq
  have b_Tactic_eq := F_Tactic_eq.binds (ps := ["self", "other"]) fun _ _ _ _ _ _ us hl => match us, hl with | [_, _], _ => rfl
  have F_read_tactic := fun_mk (st := s_read_tactic) l_read_tactic c_read_tactic k_read_tactic
  have b_read_tactic := F_read_tactic.binds (ps := ["text"]) fun _ _ _ _ _ _ us hl => match us, hl with | [_], _ => rfl
  have F_read_rule := fun_mk (st := s_read_rule) l_read_rule c_read_rule k_read_rule
  have b_read_rule := F_read_rule.binds (ps := ["words"]) fun _ _ _ _ _ _ us hl => match us, hl with | [_], _ => rfl
  have F_read_part := fun_mk (st := s_read_part) l_read_part c_read_part k_read_part
  have b_read_part := F_read_part.binds (ps := ["words"]) fun _ _ _ _ _ _ us hl => match us, hl with | [_], _ => rfl
  have F_tactic_text := fun_mk (st := s_tactic_text) l_tactic_text c_tactic_text k_tactic_text
  have b_tactic_text := F_tactic_text.binds (ps := ["tactic"]) fun _ _ _ _ _ _ us hl => match us, hl with | [_], _ => rfl
  have F_law_cell := fun_mk (st := s_law_cell) l_law_cell c_law_cell k_law_cell
  have b_law_cell := F_law_cell.binds (ps := ["script", "k"]) fun _ _ _ _ _ _ us hl => match us, hl with | [_, _], _ => rfl
  have F_law_row := fun_mk (st := s_law_row) l_law_row c_law_row k_law_row
  have b_law_row := F_law_row.binds (ps := ["cell", "count", "size"]) fun _ _ _ _ _ _ us hl => match us, hl with | [_, _, _], _ => rfl
  have F_law_sight := fun_mk (st := s_law_sight) l_law_sight c_law_sight k_law_sight
  have b_law_sight := F_law_sight.binds (ps := ["cell"]) fun _ _ _ _ _ _ us hl => match us, hl with | [_], _ => rfl
  have F_law_rule := fun_mk (st := s_law_rule) l_law_rule c_law_rule k_law_rule
  have b_law_rule := F_law_rule.binds (ps := ["cell", "procs"]) fun _ _ _ _ _ _ us hl => match us, hl with | [_, _], _ => rfl
  have F_law_words := fun_mk (st := s_law_words) l_law_words c_law_words k_law_words
  have b_law_words := F_law_words.binds (ps := ["sight"]) fun _ _ _ _ _ _ us hl => match us, hl with | [_], _ => rfl
  have F_law_all := fun_mk (st := s_law_all) l_law_all c_law_all k_law_all
  have b_law_all := F_law_all.binds (ps := ["rules"]) fun _ _ _ _ _ _ us hl => match us, hl with | [_], _ => rfl
  have F_law_strange := fun_mk (st := s_law_strange) l_law_strange c_law_strange k_law_strange
  have b_law_strange := F_law_strange.binds (ps := ["cell"]) fun _ _ _ _ _ _ us hl => match us, hl with | [_], _ => rfl
  have F_law_at := fun_mk (st := s_law_at) l_law_at c_law_at k_law_at
  have b_law_at := F_law_at.binds (ps := ["words"]) fun _ _ _ _ _ _ us hl => match us, hl with | [_], _ => rfl
  have F_law_bounds := fun_mk (st := s_law_bounds) l_law_bounds c_law_bounds k_law_bounds
  have b_law_bounds := F_law_bounds.binds (ps := ["count", "deep"]) fun _ _ _ _ _ _ us hl => match us, hl with | [_, _], _ => rfl
  have F_law := fun_mk (st := s_law) l_law c_law k_law
  have b_law := F_law.binds (ps := ["script"]) fun _ _ _ _ _ _ us hl => match us, hl with | [_], _ => rfl
  refine ⟨PySem.W.fnOf "law" "law" (defArgs s_law) (defBody s_law) (defScope s_law) .none kV_law dc_law pm_law an_law cd_law ct_law, fun s v => .of_eq rfl, fun base _ _ => ?_⟩
  exact ok_law hP_ (mg := mg) (K := K) {
    a_BadText_init := _
    fd_BadText_init := _
    a_is_name := _
    fd_is_name := _
    a_is_number := _
    fd_is_number := _
    a_Words_init := _
    fd_Words_init := _
    a_Words_ended := _
    fd_Words_ended := _
    a_Words_ahead := _
    fd_Words_ahead := _
    a_Words_refuse := _
    fd_Words_refuse := _
    a_Words_take := _
    fd_Words_take := _
    a_Words_one_of := _
    fd_Words_one_of := _
    a_Words_name := _
    fd_Words_name := _
    a_Words_number := _
    fd_Words_number := _
    a_Words_finish := _
    fd_Words_finish := _
    a_read_expression := _
    fd_read_expression := _
    a_expression_words := _
    fd_expression_words := _
    a_Tactic_init := _
    fd_Tactic_init := _
    a_Tactic_eq := _
    fd_Tactic_eq := _
    a_read_tactic := _
    fd_read_tactic := _
    a_read_rule := _
    fd_read_rule := _
    a_read_part := _
    fd_read_part := _
    a_tactic_text := _
    fd_tactic_text := _
    a_law_cell := _
    fd_law_cell := _
    a_law_row := _
    fd_law_row := _
    a_law_sight := _
    fd_law_sight := _
    a_law_rule := _
    fd_law_rule := _
    a_law_words := _
    fd_law_words := _
    a_law_all := _
    fd_law_all := _
    a_law_strange := _
    fd_law_strange := _
    a_law_at := _
    fd_law_at := _
    a_law_bounds := _
    fd_law_bounds := _
    a_law := _
    fd_law := _
    C_Words := _
    C_Tactic := _
    C_BadText := _
    C_PlayError := _
    C_BadPaper := _
    o_n := o_n
    o_t := o_t
    g_Words := PySem.W.mg_of X G hC_Words
    cl_Words := ⟨pg_Words, hd_Words, po_Words, sa_Words⟩
    sf_Words := sf_Words
    na_Words_words := na_Words_words
    na_Words_at := na_Words_at
    g_Tactic := PySem.W.mg_of X G hC_Tactic
    cl_Tactic := ⟨pg_Tactic, hd_Tactic, po_Tactic, sa_Tactic⟩
    sf_Tactic := sf_Tactic
    na_Tactic_rules := na_Tactic_rules
    ia_Tactic := ia_Tactic
    im_Tactic := im_Tactic
    ik_Tactic := ik_Tactic
    F_is_name := F_is_name
    b_is_name := b_is_name
    k_is_name := k_is_name
    g_is_name := PySem.W.mg_of X G h_is_name
    F_is_number := F_is_number
    b_is_number := b_is_number
    k_is_number := k_is_number
    g_is_number := PySem.W.mg_of X G h_is_number
    F_Words_init := F_Words_init
    b_Words_init := b_Words_init
    k_Words_init := k_Words_init
    m_Words_init := ⟨h_Words_init, i_Words_init, k_Words_init⟩
    F_Words_ended := F_Words_ended
    b_Words_ended := b_Words_ended
    k_Words_ended := k_Words_ended
    m_Words_ended := ⟨h_Words_ended, i_Words_ended, k_Words_ended⟩
    F_Words_ahead := F_Words_ahead
    b_Words_ahead := b_Words_ahead
    k_Words_ahead := k_Words_ahead
    m_Words_ahead := ⟨h_Words_ahead, i_Words_ahead, k_Words_ahead⟩
    F_Words_refuse := F_Words_refuse
    b_Words_refuse := b_Words_refuse
    k_Words_refuse := k_Words_refuse
    m_Words_refuse := ⟨h_Words_refuse, i_Words_refuse, k_Words_refuse⟩
    F_Words_take := F_Words_take
    b_Words_take := b_Words_take
    k_Words_take := k_Words_take
    m_Words_take := ⟨h_Words_take, i_Words_take, k_Words_take⟩
    F_Words_one_of := F_Words_one_of
    b_Words_one_of := b_Words_one_of
    k_Words_one_of := k_Words_one_of
    m_Words_one_of := ⟨h_Words_one_of, i_Words_one_of, k_Words_one_of⟩
    te0_Words_name := _
    qe0_Words_name := fun H => .inr ⟨_, _, _, lt0_Words_name, rfl, rfl, (by decide), .nil⟩
    F_Words_name := F_Words_name
    ds0_Words_name := ds0_Words_name
    dv0_Words_name := dv0_Words_name
    db0_Words_name := db0_Words_name
    b_Words_name := b_Words_name
    k_Words_name := k_Words_name
    m_Words_name := ⟨h_Words_name, i_Words_name, k_Words_name⟩
    F_Words_number := F_Words_number
    b_Words_number := b_Words_number
    k_Words_number := k_Words_number
    m_Words_number := ⟨h_Words_number, i_Words_number, k_Words_number⟩
    F_Words_finish := F_Words_finish
    b_Words_finish := b_Words_finish
    k_Words_finish := k_Words_finish
    m_Words_finish := ⟨h_Words_finish, i_Words_finish, k_Words_finish⟩
    F_read_expression := F_read_expression
    ds0_read_expression := ds0_read_expression
    dv0_read_expression := dv0_read_expression
    db0_read_expression := db0_read_expression
    b_read_expression := b_read_expression
    k_read_expression := k_read_expression
    g_read_expression := PySem.W.mg_of X G h_read_expression
    F_expression_words := F_expression_words
    b_expression_words := b_expression_words
    k_expression_words := k_expression_words
    g_expression_words := PySem.W.mg_of X G h_expression_words
    F_Tactic_init := F_Tactic_init
    b_Tactic_init := b_Tactic_init
    k_Tactic_init := k_Tactic_init
    m_Tactic_init := ⟨h_Tactic_init, i_Tactic_init, k_Tactic_init⟩
    F_Tactic_eq := F_Tactic_eq
    b_Tactic_eq := b_Tactic_eq
    k_Tactic_eq := k_Tactic_eq
    m_Tactic_eq := ⟨h_Tactic_eq, i_Tactic_eq, k_Tactic_eq⟩
    F_read_tactic := F_read_tactic
    b_read_tactic := b_read_tactic
    k_read_tactic := k_read_tactic
    g_read_tactic := PySem.W.mg_of X G h_read_tactic
    F_read_rule := F_read_rule
    b_read_rule := b_read_rule
    k_read_rule := k_read_rule
    g_read_rule := PySem.W.mg_of X G h_read_rule
    F_read_part := F_read_part
    b_read_part := b_read_part
    k_read_part := k_read_part
    g_read_part := PySem.W.mg_of X G h_read_part
    F_tactic_text := F_tactic_text
    b_tactic_text := b_tactic_text
    k_tactic_text := k_tactic_text
    g_tactic_text := PySem.W.mg_of X G h_tactic_text
    F_law_cell := F_law_cell
    b_law_cell := b_law_cell
    k_law_cell := k_law_cell
    g_law_cell := PySem.W.mg_of X G h_law_cell
    F_law_row := F_law_row
    b_law_row := b_law_row
    k_law_row := k_law_row
    g_law_row := PySem.W.mg_of X G h_law_row
    F_law_sight := F_law_sight
    b_law_sight := b_law_sight
    k_law_sight := k_law_sight
    g_law_sight := PySem.W.mg_of X G h_law_sight
    F_law_rule := F_law_rule
    b_law_rule := b_law_rule
    k_law_rule := k_law_rule
    g_law_rule := PySem.W.mg_of X G h_law_rule
    F_law_words := F_law_words
    b_law_words := b_law_words
    k_law_words := k_law_words
    g_law_words := PySem.W.mg_of X G h_law_words
    F_law_all := F_law_all
    b_law_all := b_law_all
    k_law_all := k_law_all
    g_law_all := PySem.W.mg_of X G h_law_all
    F_law_strange := F_law_strange
    b_law_strange := b_law_strange
    k_law_strange := k_law_strange
    g_law_strange := PySem.W.mg_of X G h_law_strange
    F_law_at := F_law_at
    b_law_at := b_law_at
    k_law_at := k_law_at
    g_law_at := PySem.W.mg_of X G h_law_at
    F_law_bounds := F_law_bounds
    b_law_bounds := b_law_bounds
    k_law_bounds := k_law_bounds
    g_law_bounds := PySem.W.mg_of X G h_law_bounds
    F_law := F_law
    b_law := b_law
    k_law := k_law
    g_law := PySem.W.mg_of X G h_law
    mk_Words := ⟨mk_Words, h_Words_init, i_Words_init, kc_Words⟩
    mk_Tactic := ⟨mk_Tactic, h_Tactic_init, i_Tactic_init, kc_Tactic⟩
    g_BadText := PySem.W.mg_of X G hC_BadText
    kc_BadText := kc_BadText
    xb_BadText := xb_BadText
    xt_BadText := xt_BadText
    xd_BadText := xd_BadText
    z_super := PySem.W.mg_none_of X G zn_super
    E_BadText := { ex := ⟨_, _, _, _, _, _, _, _, _, _, _, _, _, _, _, _, _, _, _, rfl, li_BadText_init, ci_BadText_init, di_BadText_init, vi_BadText_init, xi_BadText_init⟩, any := any_, sup := si_BadText_init, subV := ui_BadText_init, mro := mi_BadText_init, T := ⟨⟨_, _, _, _, _, _, _, _, _, _, _, _, _, _, _, lc_BadText_init, rm_BadText_init⟩, sa_BadText_init, xb_BadText, xt_BadText, kc_BadText⟩, iC := hi_BadText_init, tI := ti_BadText_init, no := no_BadText_init, z := PySem.W.mg_none_of X G zn_super }
    b_BadText_init := (.all fun us hl => match us, hl with | [_, _], _ => rfl)
    g_PlayError := PySem.W.mg_of X G hC_PlayError
    kc_PlayError := kc_PlayError
    xb_PlayError := xb_PlayError
    xt_PlayError := xt_PlayError
    xd_PlayError := xd_PlayError
    g_BadPaper := PySem.W.mg_of X G hC_BadPaper
    ec_BadText := ⟨eg_BadText, ek_BadText, xb_BadText, xd_BadText, ea_BadText, o_n, o_t, em_BadText⟩
    a_OPERATORS := _
    g_OPERATORS := PySem.W.mg_of X G hg_OPERATORS
    q_OPERATORS := fun H => .inr ⟨_, _, _, lq_OPERATORS, rfl, rfl, (by show 7 ≤ sizeLine; decide), (.cons ⟨_, rfl⟩ (.cons ⟨_, rfl⟩ (.cons ⟨_, rfl⟩ (.cons ⟨_, rfl⟩ (.cons ⟨_, rfl⟩ (.cons ⟨_, rfl⟩ (.cons ⟨_, rfl⟩ .nil)))))))⟩
    a_LOOKS := _
    g_LOOKS := PySem.W.mg_of X G hg_LOOKS
    q_LOOKS := fun H => .inr ⟨_, _, _, lq_LOOKS, rfl, rfl, (by show 2 ≤ sizeLine; decide), (.cons ⟨_, rfl⟩ (.cons ⟨_, rfl⟩ .nil))⟩
    g_DEEPEST_EXPRESSION := ⟨_, PySem.W.mg_of X G hg_DEEPEST_EXPRESSION⟩
    g_LONGEST_NAME := ⟨_, PySem.W.mg_of X G hg_LONGEST_NAME⟩
    g_LONGEST_NUMBER := ⟨_, PySem.W.mg_of X G hg_LONGEST_NUMBER⟩
    g_GREATEST_NUMBER := ⟨_, PySem.W.mg_of X G hg_GREATEST_NUMBER⟩
    g_LETTERS := ⟨_, PySem.W.mg_of X G hg_LETTERS⟩
    g_DIGITS := ⟨_, PySem.W.mg_of X G hg_DIGITS⟩
    a_KEY_WORDS := _
    g_KEY_WORDS := PySem.W.mg_of X G hg_KEY_WORDS
    q_KEY_WORDS := fun H => .inr ⟨_, _, _, lq_KEY_WORDS, rfl, rfl, (by show 20 ≤ sizeLine; decide), (.cons ⟨_, rfl⟩ (.cons ⟨_, rfl⟩ (.cons ⟨_, rfl⟩ (.cons ⟨_, rfl⟩ (.cons ⟨_, rfl⟩ (.cons ⟨_, rfl⟩ (.cons ⟨_, rfl⟩ (.cons ⟨_, rfl⟩ (.cons ⟨_, rfl⟩ (.cons ⟨_, rfl⟩ (.cons ⟨_, rfl⟩ (.cons ⟨_, rfl⟩ (.cons ⟨_, rfl⟩ (.cons ⟨_, rfl⟩ (.cons ⟨_, rfl⟩ (.cons ⟨_, rfl⟩ (.cons ⟨_, rfl⟩ (.cons ⟨_, rfl⟩ (.cons ⟨_, rfl⟩ (.cons ⟨_, rfl⟩ .nil))))))))))))))))))))⟩
    g_MOST_RULES := ⟨_, PySem.W.mg_of X G hg_MOST_RULES⟩
    a_KNOWN := _
    g_KNOWN := PySem.W.mg_of X G hg_KNOWN
    q_KNOWN := fun H => .inr ⟨_, _, _, lq_KNOWN, rfl, rfl, (by show 3 ≤ sizeLine; decide), (.cons ⟨_, rfl⟩ (.cons ⟨_, rfl⟩ (.cons ⟨_, rfl⟩ .nil)))⟩
    z_len := PySem.W.mg_none_of X G zn_len
    z_all := PySem.W.mg_none_of X G zn_all
    z_int := PySem.W.mg_none_of X G zn_int
    z_str := PySem.W.mg_none_of X G zn_str
    z_tuple := PySem.W.mg_none_of X G zn_tuple
    z_list := PySem.W.mg_none_of X G zn_list
    z_range := PySem.W.mg_none_of X G zn_range
    z_isinstance := PySem.W.mg_none_of X G zn_isinstance
    z_abs := PySem.W.mg_none_of X G zn_abs
    xga_BadText := xga_BadText
    xgg_BadText := xgg_BadText
    sub_tp := sub_tp
    ki_tt := ki_tt
    ki_tp := ki_tp }
theorem walk {l : PySem.W.OpenLaw} {q : Program} {loose : List Str} {XP : (Str → Option Value) → Heap → Prop} {YP : World → Heap → Prop} {d : DefRec} {K : Params → PySem.W.Frag} (hn : l.most = some 63) (hdf : d.params.defaults = [])
    (hY : ∀ (w : World) (h : Heap), YP w h → (K w.params).In h)
    (F : ∀ (w : World) (mg : Str → Option Value) (fa : Addr) (h : Heap), (K w.params).In h → h.Ns mainGlobals mg → mg d.name = some (.ref fa) →
      ∃ fd : FuncData, (∀ (s : Shared) (u : Value), BindsTo s fd ⟨[u], []⟩ [("script", u)]) ∧ ∀ base : Heap, (K w.params).In base → base.Ns mainGlobals mg → FnOk l.prog w (K w.params) mg base CX0 60 fa fd ["script"] (spLaw (K w.params))) :
    PySem.W.WalkO q loose XP YP l.row.toRowW d [] (fun f vs => PySem.call f vs) :=
  L2.walk_of (n := 63) (k := 60) (x := "script") (CX := fun _ => CX0) (sp := fun w => spLaw (K w.params)) hn (by decide) hdf ⟨rfl, by decide, by decide⟩ hY F (fun _ _ a ns hl _ hS => ⟨a, ns, rfl, hS, hl, fun _ => rfl⟩) fun _ _ _ _ _ z => z
end Toy
set_option Elab.async false
open PySem PySem.W PyProof.Rows
set_option maxRecDepth 100000 in
set_option maxHeartbeats 0 in
theorem PySem.Challenge.cw_tellsnone_k71_texts_of_tactics_holds : PySem.Challenge.rw_tellsnone_k71_texts_of_tactics.Holds := by
  w_on; o_law; k_head; (case hw => w_witness2)
  k_fill
  refine Toy.walk (l := PySem.Challenge.rw_tellsnone_k71_texts_of_tactics) rfl rfl (fun w h Y => PySem.W.kIn_of Y) ?F
  case F =>
    intro w mg fa h KX G hmg
    refine' Toy.all_mk KX G hmg ?o_n ?o_t ?hC_Words ?pg_Words ?hd_Words ?po_Words ?sa_Words ?mk_Words ?kc_Words ?sf_Words ?na_Words_words ?na_Words_at ?hC_Tactic ?pg_Tactic ?hd_Tactic ?po_Tactic ?sa_Tactic ?mk_Tactic ?kc_Tactic ?sf_Tactic ?na_Tactic_rules ?ia_Tactic ?im_Tactic ?ik_Tactic ?h_is_name ?l_is_name ?c_is_name ?k_is_name ?h_is_number ?l_is_number ?c_is_number ?k_is_number ?h_Words_init ?i_Words_init ?l_Words_init ?c_Words_init ?k_Words_init ?h_Words_ended ?i_Words_ended ?l_Words_ended ?c_Words_ended ?k_Words_ended ?h_Words_ahead ?i_Words_ahead ?l_Words_ahead ?c_Words_ahead ?k_Words_ahead ?h_Words_refuse ?i_Words_refuse ?l_Words_refuse ?c_Words_refuse ?k_Words_refuse ?h_Words_take ?i_Words_take ?l_Words_take ?c_Words_take ?k_Words_take ?h_Words_one_of ?i_Words_one_of ?l_Words_one_of ?c_Words_one_of ?k_Words_one_of ?h_Words_name ?i_Words_name ?l_Words_name ?dl_Words_name ?lt0_Words_name ?c_Words_name ?k_Words_name ?h_Words_number ?i_Words_number ?l_Words_number ?c_Words_number ?k_Words_number ?h_Words_finish ?i_Words_finish ?l_Words_finish ?c_Words_finish ?k_Words_finish ?h_read_expression ?l_read_expression ?dl_read_expression ?c_read_expression ?k_read_expression ?h_expression_words ?l_expression_words ?c_expression_words ?k_expression_words ?h_Tactic_init ?i_Tactic_init ?l_Tactic_init ?c_Tactic_init ?k_Tactic_init ?h_Tactic_eq ?i_Tactic_eq ?l_Tactic_eq ?c_Tactic_eq ?k_Tactic_eq ?h_read_tactic ?l_read_tactic ?c_read_tactic ?k_read_tactic ?h_read_rule ?l_read_rule ?c_read_rule ?k_read_rule ?h_read_part ?l_read_part ?c_read_part ?k_read_part ?h_tactic_text ?l_tactic_text ?c_tactic_text ?k_tactic_text ?h_law_cell ?l_law_cell ?c_law_cell ?k_law_cell ?h_law_row ?l_law_row ?c_law_row ?k_law_row ?h_law_sight ?l_law_sight ?c_law_sight ?k_law_sight ?h_law_rule ?l_law_rule ?c_law_rule ?k_law_rule ?h_law_words ?l_law_words ?c_law_words ?k_law_words ?h_law_all ?l_law_all ?c_law_all ?k_law_all ?h_law_strange ?l_law_strange ?c_law_strange ?k_law_strange ?h_law_at ?l_law_at ?c_law_at ?k_law_at ?h_law_bounds ?l_law_bounds ?c_law_bounds ?k_law_bounds ?h_law ?l_law ?c_law ?k_law ?hC_BadText ?kc_BadText ?xb_BadText ?xt_BadText ?xd_BadText ?any_ ?zn_super ?hi_BadText_init ?ti_BadText_init ?li_BadText_init ?ci_BadText_init ?di_BadText_init ?vi_BadText_init ?xi_BadText_init ?si_BadText_init ?ui_BadText_init ?mi_BadText_init ?lc_BadText_init ?rm_BadText_init ?sa_BadText_init ?no_BadText_init ?hC_PlayError ?kc_PlayError ?xb_PlayError ?xt_PlayError ?xd_PlayError ?hC_BadPaper ?eg_BadText ?ek_BadText ?ea_BadText ?em_BadText ?hg_OPERATORS ?lq_OPERATORS ?hg_LOOKS ?lq_LOOKS ?hg_DEEPEST_EXPRESSION ?hg_LONGEST_NAME ?hg_LONGEST_NUMBER ?hg_GREATEST_NUMBER ?hg_LETTERS ?hg_DIGITS ?hg_KEY_WORDS ?lq_KEY_WORDS ?hg_MOST_RULES ?hg_KNOWN ?lq_KNOWN ?zn_len ?zn_all ?zn_int ?zn_str ?zn_tuple ?zn_list ?zn_range ?zn_isinstance ?zn_abs ?xga_BadText ?xgg_BadText ?sub_tp ?ki_tt ?ki_tp ?hP_
    (case o_n => first | k_is | k_exc | kit_is)
    (case o_t => first | k_is | k_exc | kit_is)
    (case hC_Words => first | k_is | k_exc | kit_is)
    (case pg_Words => first | k_is | k_exc | kit_is)
    (case hd_Words => first | k_is | k_exc | kit_is)
    (case po_Words => first | k_is | k_exc | kit_is)
    (case sa_Words => first | k_is | k_exc | kit_is)
    (case mk_Words => first | k_is | k_exc | kit_is)
    (case kc_Words => first | k_is | k_exc | kit_is)
    (case sf_Words => first | k_is | k_exc | kit_is)
    (case na_Words_words => first | k_is | k_exc | kit_is)
    (case na_Words_at => first | k_is | k_exc | kit_is)
    (case hC_Tactic => first | k_is | k_exc | kit_is)
    (case pg_Tactic => first | k_is | k_exc | kit_is)
    (case hd_Tactic => first | k_is | k_exc | kit_is)
    (case po_Tactic => first | k_is | k_exc | kit_is)
    (case sa_Tactic => first | k_is | k_exc | kit_is)
    (case mk_Tactic => first | k_is | k_exc | kit_is)
    (case kc_Tactic => first | k_is | k_exc | kit_is)
    (case sf_Tactic => first | k_is | k_exc | kit_is)
    (case na_Tactic_rules => first | k_is | k_exc | kit_is)
    (case ia_Tactic => first | k_is | k_exc | kit_is)
    (case im_Tactic => first | k_is | k_exc | kit_is)
    (case ik_Tactic => first | k_is | k_exc | kit_is)
    (case h_is_name => first | k_is | k_exc | kit_is)
    (case l_is_name => first | k_is | k_exc | kit_is)
    (case c_is_name => first | k_is | k_exc | kit_is)
    (case k_is_name => first | k_is | k_exc | kit_is)
    (case h_is_number => first | k_is | k_exc | kit_is)
    (case l_is_number => first | k_is | k_exc | kit_is)
    (case c_is_number => first | k_is | k_exc | kit_is)
    (case k_is_number => first | k_is | k_exc | kit_is)
    (case h_Words_init => first | k_is | k_exc | kit_is)
    (case i_Words_init => first | k_is | k_exc | kit_is)
    (case l_Words_init => first | k_is | k_exc | kit_is)
    (case c_Words_init => first | k_is | k_exc | kit_is)
    (case k_Words_init => first | k_is | k_exc | kit_is)
    (case h_Words_ended => first | k_is | k_exc | kit_is)
    (case i_Words_ended => first | k_is | k_exc | kit_is)
    (case l_Words_ended => first | k_is | k_exc | kit_is)
    (case c_Words_ended => first | k_is | k_exc | kit_is)
    (case k_Words_ended => first | k_is | k_exc | kit_is)
    (case h_Words_ahead => first | k_is | k_exc | kit_is)
    (case i_Words_ahead => first | k_is | k_exc | kit_is)
    (case l_Words_ahead => first | k_is | k_exc | kit_is)
    (case c_Words_ahead => first | k_is | k_exc | kit_is)
    (case k_Words_ahead => first | k_is | k_exc | kit_is)
    (case h_Words_refuse => first | k_is | k_exc | kit_is)
    (case i_Words_refuse => first | k_is | k_exc | kit_is)
    (case l_Words_refuse => first | k_is | k_exc | kit_is)
    (case c_Words_refuse => first | k_is | k_exc | kit_is)
    (case k_Words_refuse => first | k_is | k_exc | kit_is)
    (case h_Words_take => first | k_is | k_exc | kit_is)
    (case i_Words_take => first | k_is | k_exc | kit_is)
    (case l_Words_take => first | k_is | k_exc | kit_is)
    (case c_Words_take => first | k_is | k_exc | kit_is)
    (case k_Words_take => first | k_is | k_exc | kit_is)
    (case h_Words_one_of => first | k_is | k_exc | kit_is)
    (case i_Words_one_of => first | k_is | k_exc | kit_is)
    (case l_Words_one_of => first | k_is | k_exc | kit_is)
    (case c_Words_one_of => first | k_is | k_exc | kit_is)
    (case k_Words_one_of => first | k_is | k_exc | kit_is)
    (case h_Words_name => first | k_is | k_exc | kit_is)
    (case i_Words_name => first | k_is | k_exc | kit_is)
    (case l_Words_name => first | k_is | k_exc | kit_is)
    (case dl_Words_name => first | k_is | k_exc | kit_is)
    (case lt0_Words_name => first | k_is | k_exc | kit_is)
    (case c_Words_name => first | k_is | k_exc | kit_is)
    (case k_Words_name => first | k_is | k_exc | kit_is)
    (case h_Words_number => first | k_is | k_exc | kit_is)
    (case i_Words_number => first | k_is | k_exc | kit_is)
    (case l_Words_number => first | k_is | k_exc | kit_is)
    (case c_Words_number => first | k_is | k_exc | kit_is)
    (case k_Words_number => first | k_is | k_exc | kit_is)
    (case h_Words_finish => first | k_is | k_exc | kit_is)
    (case i_Words_finish => first | k_is | k_exc | kit_is)
    (case l_Words_finish => first | k_is | k_exc | kit_is)
    (case c_Words_finish => first | k_is | k_exc | kit_is)
    (case k_Words_finish => first | k_is | k_exc | kit_is)
    (case h_read_expression => first | k_is | k_exc | kit_is)
    (case l_read_expression => first | k_is | k_exc | kit_is)
    (case dl_read_expression => first | k_is | k_exc | kit_is)
    (case c_read_expression => first | k_is | k_exc | kit_is)
    (case k_read_expression => first | k_is | k_exc | kit_is)
    (case h_expression_words => first | k_is | k_exc | kit_is)
    (case l_expression_words => first | k_is | k_exc | kit_is)
    (case c_expression_words => first | k_is | k_exc | kit_is)
    (case k_expression_words => first | k_is | k_exc | kit_is)
    (case h_Tactic_init => first | k_is | k_exc | kit_is)
    (case i_Tactic_init => first | k_is | k_exc | kit_is)
    (case l_Tactic_init => first | k_is | k_exc | kit_is)
    (case c_Tactic_init => first | k_is | k_exc | kit_is)
    (case k_Tactic_init => first | k_is | k_exc | kit_is)
    (case h_Tactic_eq => first | k_is | k_exc | kit_is)
    (case i_Tactic_eq => first | k_is | k_exc | kit_is)
    (case l_Tactic_eq => first | k_is | k_exc | kit_is)
    (case c_Tactic_eq => first | k_is | k_exc | kit_is)
    (case k_Tactic_eq => first | k_is | k_exc | kit_is)
    (case h_read_tactic => first | k_is | k_exc | kit_is)
    (case l_read_tactic => first | k_is | k_exc | kit_is)
    (case c_read_tactic => first | k_is | k_exc | kit_is)
    (case k_read_tactic => first | k_is | k_exc | kit_is)
    (case h_read_rule => first | k_is | k_exc | kit_is)
    (case l_read_rule => first | k_is | k_exc | kit_is)
    (case c_read_rule => first | k_is | k_exc | kit_is)
    (case k_read_rule => first | k_is | k_exc | kit_is)
    (case h_read_part => first | k_is | k_exc | kit_is)
    (case l_read_part => first | k_is | k_exc | kit_is)
    (case c_read_part => first | k_is | k_exc | kit_is)
    (case k_read_part => first | k_is | k_exc | kit_is)
    (case h_tactic_text => first | k_is | k_exc | kit_is)
    (case l_tactic_text => first | k_is | k_exc | kit_is)
    (case c_tactic_text => first | k_is | k_exc | kit_is)
    (case k_tactic_text => first | k_is | k_exc | kit_is)
    (case h_law_cell => first | k_is | k_exc | kit_is)
    (case l_law_cell => first | k_is | k_exc | kit_is)
    (case c_law_cell => first | k_is | k_exc | kit_is)
    (case k_law_cell => first | k_is | k_exc | kit_is)
    (case h_law_row => first | k_is | k_exc | kit_is)
    (case l_law_row => first | k_is | k_exc | kit_is)
    (case c_law_row => first | k_is | k_exc | kit_is)
    (case k_law_row => first | k_is | k_exc | kit_is)
    (case h_law_sight => first | k_is | k_exc | kit_is)
    (case l_law_sight => first | k_is | k_exc | kit_is)
    (case c_law_sight => first | k_is | k_exc | kit_is)
    (case k_law_sight => first | k_is | k_exc | kit_is)
    (case h_law_rule => first | k_is | k_exc | kit_is)
    (case l_law_rule => first | k_is | k_exc | kit_is)
    (case c_law_rule => first | k_is | k_exc | kit_is)
    (case k_law_rule => first | k_is | k_exc | kit_is)
    (case h_law_words => first | k_is | k_exc | kit_is)
    (case l_law_words => first | k_is | k_exc | kit_is)
    (case c_law_words => first | k_is | k_exc | kit_is)
    (case k_law_words => first | k_is | k_exc | kit_is)
    (case h_law_all => first | k_is | k_exc | kit_is)
    (case l_law_all => first | k_is | k_exc | kit_is)
    (case c_law_all => first | k_is | k_exc | kit_is)
    (case k_law_all => first | k_is | k_exc | kit_is)
    (case h_law_strange => first | k_is | k_exc | kit_is)
    (case l_law_strange => first | k_is | k_exc | kit_is)
    (case c_law_strange => first | k_is | k_exc | kit_is)
    (case k_law_strange => first | k_is | k_exc | kit_is)
    (case h_law_at => first | k_is | k_exc | kit_is)
    (case l_law_at => first | k_is | k_exc | kit_is)
    (case c_law_at => first | k_is | k_exc | kit_is)
    (case k_law_at => first | k_is | k_exc | kit_is)
    (case h_law_bounds => first | k_is | k_exc | kit_is)
    (case l_law_bounds => first | k_is | k_exc | kit_is)
    (case c_law_bounds => first | k_is | k_exc | kit_is)
    (case k_law_bounds => first | k_is | k_exc | kit_is)
    (case h_law => first | k_is | k_exc | kit_is)
    (case l_law => first | k_is | k_exc | kit_is)
    (case c_law => first | k_is | k_exc | kit_is)
    (case k_law => first | k_is | k_exc | kit_is)
    (case hC_BadText => first | k_is | k_exc | kit_is)
    (case kc_BadText => first | k_is | k_exc | kit_is)
    (case xb_BadText => first | k_is | k_exc | kit_is)
    (case xt_BadText => first | k_is | k_exc | kit_is)
    (case xd_BadText => first | k_is | k_exc | kit_is)
    (case any_ => first | k_is | k_exc | kit_is)
    (case zn_super => first | k_is | k_exc | kit_is)
    (case hi_BadText_init => first | k_is | k_exc | kit_is)
    (case ti_BadText_init => first | k_is | k_exc | kit_is)
    (case li_BadText_init => first | k_is | k_exc | kit_is)
    (case ci_BadText_init => first | k_is | k_exc | kit_is)
    (case di_BadText_init => first | k_is | k_exc | kit_is)
    (case vi_BadText_init => rfl)
    (case xi_BadText_init => first | k_is | k_exc | kit_is)
    (case si_BadText_init => ks_is)
    (case ui_BadText_init => first | k_is | k_exc | kit_is)
    (case mi_BadText_init => first | k_is | k_exc | kit_is)
    (case lc_BadText_init => first | k_is | k_exc | kit_is)
    (case rm_BadText_init => decide +kernel)
    (case sa_BadText_init => first | k_is | k_exc | kit_is)
    (case no_BadText_init => first | k_is | k_exc | kit_is)
    (case hC_PlayError => first | k_is | k_exc | kit_is)
    (case kc_PlayError => first | k_is | k_exc | kit_is)
    (case xb_PlayError => first | k_is | k_exc | kit_is)
    (case xt_PlayError => first | k_is | k_exc | kit_is)
    (case xd_PlayError => first | k_is | k_exc | kit_is)
    (case hC_BadPaper => first | k_is | k_exc | kit_is)
    (case eg_BadText => first | k_is | k_exc | kit_is)
    (case ek_BadText => first | k_is | k_exc | kit_is)
    (case ea_BadText => first | k_is | k_exc | kit_is)
    (case em_BadText => first | k_is | k_exc | kit_is)
    (case hg_OPERATORS => first | k_is | k_exc | kit_is)
    (case lq_OPERATORS => first | k_is | k_exc | kit_is)
    (case hg_LOOKS => first | k_is | k_exc | kit_is)
    (case lq_LOOKS => first | k_is | k_exc | kit_is)
    (case hg_DEEPEST_EXPRESSION => first | k_is | k_exc | kit_is)
    (case hg_LONGEST_NAME => first | k_is | k_exc | kit_is)
    (case hg_LONGEST_NUMBER => first | k_is | k_exc | kit_is)
    (case hg_GREATEST_NUMBER => first | k_is | k_exc | kit_is)
    (case hg_LETTERS => first | k_is | k_exc | kit_is)
    (case hg_DIGITS => first | k_is | k_exc | kit_is)
    (case hg_KEY_WORDS => first | k_is | k_exc | kit_is)
    (case lq_KEY_WORDS => first | k_is | k_exc | kit_is)
    (case hg_MOST_RULES => first | k_is | k_exc | kit_is)
    (case hg_KNOWN => first | k_is | k_exc | kit_is)
    (case lq_KNOWN => first | k_is | k_exc | kit_is)
    (case zn_len => first | k_is | k_exc | kit_is)
    (case zn_all => first | k_is | k_exc | kit_is)
    (case zn_int => first | k_is | k_exc | kit_is)
    (case zn_str => first | k_is | k_exc | kit_is)
    (case zn_tuple => first | k_is | k_exc | kit_is)
    (case zn_list => first | k_is | k_exc | kit_is)
    (case zn_range => first | k_is | k_exc | kit_is)
    (case zn_isinstance => first | k_is | k_exc | kit_is)
    (case zn_abs => first | k_is | k_exc | kit_is)
    (case xga_BadText => first | k_is | k_exc | kit_is)
    (case xgg_BadText => first | k_is | k_exc | kit_is)
    (case sub_tp => first | k_is | k_exc | kit_is)
    (case ki_tt => first | k_is | k_exc | kit_is)
    (case ki_tp => first | k_is | k_exc | kit_is)
    (case hP_ => exact ⟨rfl, rfl⟩)
